import Derived.Test.YteohiamifoonkaaDoorWg
import Derived.Deep.RegionHeld3
import Derived.Deep.AppendLies
import Derived.LoopTactic
namespace Go.Proofs.YteohiamifoonkaaDoor
open Go.RowKit Go.Shelf

def i64v (u : Nat) : Value := .int .i64 (u : Nat)
/-- The code points of a row, each with where it begins. -/
def rowP : Nat → List Nat → List (Nat × Nat)
  | _, [] => []
  | k, [a] => [(k, a)]
  | k, a :: b :: r => if M.isHi a && M.isLo b then (k, 65536 + 1024 * (a - 55296) + (b - 56320)) :: rowP (k + 2) r else (k, a) :: rowP (k + 1) (b :: r)
def ptCells (l : List (Nat × Nat)) : List Value := l.flatMap fun p => [i64v p.1, i64v p.2]
theorem rowP_snd : ∀ (n k : Nat) (l : List Nat), l.length ≤ n → (rowP k l).map (·.2) = M.row l := by
  intro n
  induction n with
  | zero =>
    intro k l h
    have : l = [] := List.eq_nil_of_length_eq_zero (by omega)
    subst this; rfl
  | succ n ih =>
    intro k l h
    match l, h with
    | [], _ => rfl
    | [a], _ => rfl
    | a :: b :: r, h =>
      simp only [rowP, M.row]
      split
      · simp only [List.map_cons]; rw [ih (k + 2) r (by simp at h; omega)]
      · simp only [List.map_cons]; rw [ih (k + 1) (b :: r) (by simp at h ⊢; omega)]
theorem rowP_pair (k a b : Nat) (r : List Nat) (h : (M.isHi a && M.isLo b) = true) : rowP k (a :: b :: r) = (k, 65536 + 1024 * (a - 55296) + (b - 56320)) :: rowP (k + 2) r := by
  simp only [rowP, h, if_true]
theorem rowP_single (k a : Nat) (t : List Nat) (h : ∀ b r, t = b :: r → (M.isHi a && M.isLo b) = false) : rowP k (a :: t) = (k, a) :: rowP (k + 1) t := by
  cases t with
  | nil => rfl
  | cons b r => simp [rowP, h b r rfl]
theorem info83 : (Tryd.prog.info? 83).map (fun i => (i.zero, i.size, i.bytes)) = some (some (.agg #[.int .i64 0, .int .i64 0]), 2, 16) := by kernel_rfl
theorem below_app' {B n size : Nat} {w w' : World} {v : Value} {e : TypeId} {xs : List Value} {tmp : Obj} (hown : w.ownsRow B e size v n xs) (hB : B ≤ w.heap.size) (hgrow : (w.alloc tmp).grownBy w' v.ownBlock) : Below B w w' := by
  refine ((Below.refl B w).alloc hB tmp).grown hgrow (by simp; omega) fun j ej => ?_
  rcases hown.2 with ⟨rfl, _⟩ | ⟨g, cap, cur, rfl, hb, _, _⟩
  · simp [Value.ownBlock] at ej
  · obtain rfl : g = j := by simpa [Value.ownBlock] using ej
    exact hb

set_option maxHeartbeats 2000000 in
set_option maxRecDepth 100000 in
theorem row_any (v : Value) (l : List Nat) (h16 : ∀ x ∈ l, x < 65536) (hlen : l.length ≤ 1099511627776) (w : World) (hR : Reads w v l) :
    Calls Tryd.prog 43 #[v] w fun e w' => ∃ v', e = .returned v' ∧ w'.ownsRow w.heap.size 83 2 v' (rowP 0 l).length (ptCells (rowP 0 l)) ∧ Below w.heap.size w w' := by
  obtain ⟨i0, hi, hz0, hz1, hz2⟩ := info_parts info83
  obtain ⟨A, cap, rfl, hA⟩ : ∃ A cap, v = .slice A l.length cap ∧ (∀ i, i < l.length → ∃ b off, A = some ⟨b, off, none⟩ ∧ b < w.heap.size ∧ w.cell? ⟨b, off + i, none⟩ = some (.int .u16 (l.getD i 0 : Nat))) := by
    rcases hR with ⟨A, c, rfl, rfl⟩ | ⟨b, off, cap, rfl, hlt, hc⟩
    · exact ⟨A, c, rfl, fun i hi => by simp at hi⟩
    · exact ⟨_, _, rfl, fun i hi => ⟨b, off, rfl, hlt, hc i hi⟩⟩
  have HA := hide hA; clear hA hR
  have h16' : ∀ k, k < l.length → l.getD k 0 < 65536 := fun k hk => by
    rw [List.getD_eq_getElem?_getD, List.getElem?_eq_getElem hk]; exact h16 _ (List.getElem_mem hk)
  have H16 := hide h16'; clear h16'
  go_enter Tryd.func43, Tryd.ntmps43
  go_wp2
  go_loopw [3, 4] (fun o i wr => ∃ (k : Nat) (vo : Value) (ds : List (Nat × Nat)), o = vo ∧ i = .int .i64 (k : Nat) ∧ k ≤ l.length ∧ rowP 0 l = ds ++ rowP k (l.drop k) ∧ ds.length ≤ k ∧ wr.ownsRow w.heap.size 83 2 vo ds.length (ptCells ds) ∧ Below w.heap.size w wr) (fun _ i _ => l.length - (intOf i).toNat)
  case atStart => exact ⟨0, _, [], rfl, rfl, by omega, by simp, by simp, World.ownsRow_nil _ _ _ _, Below.refl _ _⟩
  case round =>
    obtain ⟨k, vo, ds, rfl, rfl, hk, hrw, hn, hown, hB⟩ := hrel
    have HRW := hide hrw; clear hrw
    by_cases hlt : k < l.length
    · obtain ⟨b, off, rfl, hblt, hcell⟩ := unhide HA k hlt
      have hcw : wr.cell? ⟨b, off + k, none⟩ = some (.int .u16 (l.getD k 0 : Nat)) := (hB.cell (p := ⟨b, off + k, none⟩) hblt).trans hcell
      have ha := unhide H16 k hlt
      have HDR := hide (drop_getD l k hlt)
      generalize l.getD k 0 = a at *
      have HHI := hide (hiZ_nat a)
      have hk1 : (k : Int) < (l.length : Int) := by omega
      have fin1 : (∀ b' r, l.drop (k + 1) = b' :: r → (M.isHi a && M.isLo b') = false) → rowP 0 l = (ds ++ [(k, a)]) ++ rowP (k + 1) (l.drop (k + 1)) := by
        intro h
        rw [unhide HRW, unhide HDR, rowP_single k a _ h]; simp
      have FIN1 := hide fin1; clear fin1
      cases hhi : M.isHi a with
      | false =>
        go_wp2_with fail
        refine (high_any _ _).mono ?_
        rintro e w' ⟨rfl, rfl⟩
        rw [unhide HHI, hhi]
        go_wp2_with (at_builtin; refine wpList_append_own _ rfl _ _ 79 rfl w.heap.size 83 i0 (.agg #[.int .i64 0, .int .i64 0]) 2 16 Tryd.underlying79 hi hz0 hz1 hz2 rfl (by decide) _ _ _ rfl (hown.alloc _) ⟨w'.heap.size, 0, none⟩ 1 1 [.int .i64 (k : Int), .int .i64 (a : Int)] rfl rfl (news_cells _ #[.int .i64 (k : Int), .int .i64 (a : Int)] 83) (by simp [Value.oneCell']) (by unfold maxLen; omega) (by omega) (by have := hB.size; simp; omega) ?_; intro v' w1 hown' hgrow _)
        go_roundw
        case rel => exact ⟨k + 1, v', ds ++ [(k, a)], rfl, by go_num, by omega, unhide FIN1 (fun b' r _ => by simp [hhi]), by simp; omega, by simpa [ptCells, i64v] using hown', hB.trans (below_app' hown hB.size hgrow)⟩
        case measure => simp [intOf]; omega
      | true =>
        by_cases hlt2 : k + 1 < l.length
        · obtain ⟨b2, off2, hbe, hblt2, hcell2⟩ := unhide HA (k + 1) hlt2
          cases hbe
          have hcw2 : wr.cell? ⟨b, off + (k + 1), none⟩ = some (.int .u16 (l.getD (k + 1) 0 : Nat)) := (hB.cell (p := ⟨b, off + (k + 1), none⟩) hblt).trans hcell2
          have ha2 := unhide H16 (k + 1) hlt2
          have HDR2 := hide (drop_getD l (k + 1) hlt2)
          generalize l.getD (k + 1) 0 = a2 at *
          have HLO := hide (loZ_nat a2)
          have hk2 : (k : Int) + 1 < (l.length : Int) := by omega
          cases hlo : M.isLo a2 with
          | false =>
            go_wp2_with fail
            refine (high_any _ _).mono ?_
            rintro e w' ⟨rfl, rfl⟩
            rw [unhide HHI, hhi]
            go_wp2_with fail
            refine (low_any _ _).mono ?_
            rintro e w' ⟨rfl, rfl⟩
            rw [unhide HLO, hlo]
            go_wp2_with (at_builtin; refine wpList_append_own _ rfl _ _ 79 rfl w.heap.size 83 i0 (.agg #[.int .i64 0, .int .i64 0]) 2 16 Tryd.underlying79 hi hz0 hz1 hz2 rfl (by decide) _ _ _ rfl (hown.alloc _) ⟨w'.heap.size, 0, none⟩ 1 1 [.int .i64 (k : Int), .int .i64 (a : Int)] rfl rfl (news_cells _ #[.int .i64 (k : Int), .int .i64 (a : Int)] 83) (by simp [Value.oneCell']) (by unfold maxLen; omega) (by omega) (by have := hB.size; simp; omega) ?_; intro v' w1 hown' hgrow _)
            go_roundw
            case rel => exact ⟨k + 1, v', ds ++ [(k, a)], rfl, by go_num, by omega, unhide FIN1 (fun b' r e' => by rw [unhide HDR2] at e'; simp only [List.cons.injEq] at e'; rw [← e'.1, hlo]; simp), by simp; omega, by simpa [ptCells, i64v] using hown', hB.trans (below_app' hown hB.size hgrow)⟩
            case measure => simp [intOf]; omega
          | true =>
            have hb1 := (M.isHi_iff a).1 hhi
            have hb2 := (M.isLo_iff a2).1 hlo
            obtain ⟨j, hj⟩ : ∃ j : Nat, 65536 + 1024 * (a - 55296) + (a2 - 56320) = j := ⟨_, rfl⟩
            have hjb : j ≤ 1114111 := by omega
            have hjz : 65536 + 1024 * ((a : Int) - 55296) + (a2 : Int) - 56320 = (j : Int) := by omega
            have fin2 : rowP 0 l = (ds ++ [(k, j)]) ++ rowP (k + 1 + 1) (l.drop (k + 1 + 1)) := by
              rw [unhide HRW, unhide HDR, unhide HDR2, rowP_pair k a a2 _ (by simp [hhi, hlo]), hj]; simp
            have FIN2 := hide fin2; clear fin2
            have HJ := hide hj; clear hj
            go_wp2_with fail
            refine (high_any _ _).mono ?_
            rintro e w' ⟨rfl, rfl⟩
            rw [unhide HHI, hhi]
            go_wp2_with fail
            refine (low_any _ _).mono ?_
            rintro e w' ⟨rfl, rfl⟩
            rw [unhide HLO, hlo]
            clear hhi hlo
            go_wp2_with fail
            have hwr : IntKind.i64.wrap ((k : Int) + 1) = (k : Int) + 1 := by rw [IntKind.wrap_i64]; omega
            have hk0 : (0 : Int) ≤ (k : Int) + 1 := by omega
            have e1 : IntKind.i64.wrap (a : Int) = (a : Int) := by rw [IntKind.wrap_i64]; omega
            have e2 : IntKind.i64.wrap ((a : Int) - 55296) = (a : Int) - 55296 := by rw [IntKind.wrap_i64]; omega
            have e3 : IntKind.i64.wrap (1024 * ((a : Int) - 55296)) = 1024 * ((a : Int) - 55296) := by rw [IntKind.wrap_i64]; omega
            have e4 : IntKind.i64.wrap (65536 + 1024 * ((a : Int) - 55296)) = 65536 + 1024 * ((a : Int) - 55296) := by rw [IntKind.wrap_i64]; omega
            have e5 : IntKind.i64.wrap (a2 : Int) = (a2 : Int) := by rw [IntKind.wrap_i64]; omega
            have e6 : IntKind.i64.wrap (65536 + 1024 * ((a : Int) - 55296) + (a2 : Int)) = 65536 + 1024 * ((a : Int) - 55296) + (a2 : Int) := by rw [IntKind.wrap_i64]; omega
            have e7 : IntKind.i64.wrap (65536 + 1024 * ((a : Int) - 55296) + (a2 : Int) - 56320) = (j : Int) := by rw [IntKind.wrap_i64]; omega
            clear hjz
            go_region_held3 (fun X => X.cell? ⟨b, off + k, none⟩ = some (.int .u16 (a : Int)) ∧ X.cell? ⟨b, off + (k + 1), none⟩ = some (.int .u16 (a2 : Int))) (first | go_keep | (have hb' := below_app' (tmp := .cells #[.int .i64 (k : Int), .int .i64 (j : Int)] 83) hown hB.size ⟨hgrow.os, hgrow.tape, hgrow.output, hgrow.size, hgrow.block⟩; exact ⟨(hb'.cell (p := ⟨b, off + k, none⟩) hblt).trans hcw, (hb'.cell (p := ⟨b, off + (k + 1), none⟩) hblt).trans hcw2⟩))
              ((refine step_append_lies _ (by rfl) _ _ 79 (by rfl) w.heap.size 83 i0 (.agg #[.int .i64 0, .int .i64 0]) 2 16 Tryd.underlying79 hi hz0 hz1 hz2 rfl (by decide) _ _ _ (by rfl) (hown.alloc _) ⟨w'.heap.size, 0, none⟩ 1 1 [.int .i64 (k : Int), .int .i64 (j : Int)] (by rfl) rfl (news_cells _ #[.int .i64 (k : Int), .int .i64 (j : Int)] 83) (by simp [Value.oneCell']) (by omega) (by unfold maxLen; omega) (by omega) (by have := hB.size; simp; omega) (w'.heap.size + 1) (by simp) ?_; intro g cap w1 hown' hgrow hat hlt'))
            clear e1 e2 e3 e4 e5 e6 e7 hwr
            go_wp2
            go_roundw
            case rel => exact ⟨k + 1 + 1, _, ds ++ [(k, j)], rfl, by go_num, by omega, unhide FIN2, by simp; omega, by simpa [ptCells, i64v] using hown', hB.trans (below_app' (tmp := .cells #[.int .i64 (k : Int), .int .i64 (j : Int)] 83) hown hB.size ⟨hgrow.os, hgrow.tape, hgrow.output, hgrow.size, hgrow.block⟩)⟩
            case measure => simp [intOf]; omega
        · have hk2 : ¬ ((k : Int) + 1 < (l.length : Int)) := by omega
          go_wp2_with fail
          refine (high_any _ _).mono ?_
          rintro e w' ⟨rfl, rfl⟩
          rw [unhide HHI, hhi]
          go_wp2_with (at_builtin; refine wpList_append_own _ rfl _ _ 79 rfl w.heap.size 83 i0 (.agg #[.int .i64 0, .int .i64 0]) 2 16 Tryd.underlying79 hi hz0 hz1 hz2 rfl (by decide) _ _ _ rfl (hown.alloc _) ⟨w'.heap.size, 0, none⟩ 1 1 [.int .i64 (k : Int), .int .i64 (a : Int)] rfl rfl (news_cells _ #[.int .i64 (k : Int), .int .i64 (a : Int)] 83) (by simp [Value.oneCell']) (by unfold maxLen; omega) (by omega) (by have := hB.size; simp; omega) ?_; intro v' w1 hown' hgrow _)
          go_roundw
          case rel => exact ⟨k + 1, v', ds ++ [(k, a)], rfl, by go_num, by omega, unhide FIN1 (fun b' r e' => by rw [List.drop_of_length_le (by omega)] at e'; cases e'), by simp; omega, by simpa [ptCells, i64v] using hown', hB.trans (below_app' hown hB.size hgrow)⟩
          case measure => simp [intOf]; omega
    · go_wp2
      go_ret
      refine ⟨_, rfl, ?_, hB⟩
      rw [unhide HRW, List.drop_of_length_le (by omega)]
      simpa [rowP] using hown
end Go.Proofs.YteohiamifoonkaaDoor
