import Derived.Test.YtpbdidnphkkenaaGreatDoorQb
import Derived.Laws.BytesArg
import Derived.Laws.IdiomStrings
import Derived.Deep.AppendLies
import Derived.Deep.RegionHeld3
set_option linter.all false
namespace Go.Proofs.YtpbdidnphkkenaaGreatDoor
section
open Go.RowKit Go.Shelf
def u8v (u : Nat) : Value := .int .u8 (u : Nat)
theorem info5 : (Tryz.prog.info? 5).map (fun i => (i.zero, i.size, i.bytes)) = some (some (.int .u8 0), 1, 1) := by kernel_rfl

theorem nums_of (l : List UInt8) : nums ⟨l.toArray⟩ = l.map UInt8.toNat := rfl
theorem back_u8 (l : List Nat) (h : ∀ x ∈ l, x < 256) : (l.map UInt8.ofNat).map UInt8.toNat = l := by
  rw [List.map_map]
  conv => rhs; rw [← List.map_id l]
  apply List.map_congr_left
  intro x hx
  have := h x hx
  simp [UInt8.toNat_ofNat']
  omega
/-- string(b) of a row of one's own. -/
theorem run_str (w : World) (B n : Nat) (v : Value) (l : List Nat) (hown : w.ownsRow B 5 1 v n (l.map u8v)) (h256 : ∀ x ∈ l, x < 256) :
    ∃ s, (convert 133 9 v).run Tryz.prog w = .ok (.string s) w ∧ nums s = l := by
  obtain ⟨hl, h⟩ := hown
  simp only [List.length_map, Nat.mul_one] at hl
  rcases h with ⟨rfl, rfl⟩ | ⟨g, cap, cur, rfl, hBg, hgb, hnc, hcm, hcs, htk⟩
  · refine ⟨ByteArray.empty, run_convert_bytes_nil w 133 5 Tryz.underlying133 Tryz.underlying5 0 0 9 Tryz.underlying9, ?_⟩
    rw [List.length_eq_zero_iff.1 hl]; rfl
  · refine ⟨⟨(l.map UInt8.ofNat).toArray⟩, ?_, ?_⟩
    · have hlen : (l.map UInt8.ofNat).length = n := by simp [hl]
      have := run_convert_bytes_back (P := Tryz.prog) w 133 9 5 ⟨g, 0, none⟩ cap (l.map UInt8.ofNat) Tryz.underlying133 Tryz.underlying5 Tryz.underlying9 (fun j hj => by
        have hj' : j < l.length := by simpa using hj
        have hx : l[j] < 256 := h256 _ (List.getElem_mem hj')
        have hown' : w.ownsRow B 5 1 (.slice (some ⟨g, 0, none⟩) n cap) n (l.map u8v) := ⟨by simp [hl], .inr ⟨g, cap, cur, rfl, hBg, hgb, hnc, hcm, hcs, htk⟩⟩
        have hc := hown'.cells (g := g) rfl j (u8v l[j]) (by simp [hj'])
        rw [hc]
        simp only [u8v, List.getElem_map, UInt8.toNat_ofNat']
        rw [Nat.mod_eq_of_lt hx])
      rw [hlen] at this
      exact this
    · rw [nums_of, back_u8 l h256]

theorem E_256 (c : Nat) (hc : c ≤ 1114111) : ∀ x ∈ M.E c, x < 256 := by
  unfold M.E; repeat' split
  all_goals (intro x hx; simp at hx; omega)

theorem below_app {B n : Nat} {w w' : World} {v : Value} {e : TypeId} {xs : List Value} {tmp : Obj} (hown : w.ownsRow B e 1 v n xs) (hB : B ≤ w.heap.size) (hgrow : (w.alloc tmp).grownBy w' v.ownBlock) : Below B w w' := by
  refine ((Below.refl B w).alloc hB tmp).grown hgrow (by simp; omega) fun j ej => ?_
  rcases hown.2 with ⟨rfl, _⟩ | ⟨g, cap, cur, rfl, hb, _, _⟩
  · simp [Value.ownBlock] at ej
  · obtain rfl : g = j := by simpa [Value.ownBlock] using ej
    exact hb

theorem news_cells (w : World) (cs : Array Value) (t : TypeId) : ∀ j u, cs.toList[j]? = some u → (w.alloc (.cells cs t)).cell? ((⟨w.heap.size, 0, none⟩ : Addr).add j) = some u :=
  World.news_of_block (World.alloc_heap_new w _)
set_option maxHeartbeats 1000000 in
set_option maxRecDepth 100000 in
theorem put_any (B n : Nat) (v : Value) (xs : List Value) (c : Nat) (hc : c ≤ 1114111) (w : World) (hown : w.ownsRow B 5 1 v n xs) (hlen : n + 4 ≤ 140737488355328) (hBw : B ≤ w.heap.size) :
    Calls Tryz.prog 70 #[v, .int .i64 (c : Nat)] w fun e w' => ∃ v', e = .returned v' ∧ w'.ownsRow B 5 1 v' (n + (M.E c).length) (xs ++ (M.E c).map u8v) ∧ Below B w w' := by
  obtain ⟨i0, hi, hz0, hz1, hz2⟩ := info_parts info5
  unfold M.E
  by_cases h1 : c < 128
  · rw [if_pos h1]
    have h1' : (c : Int) < 128 := by omega
    go_enter Tryz.func70, Tryz.ntmps70
    go_wp2_with (at_builtin; refine wpList_append_own _ rfl _ _ 133 rfl B 5 i0 (.int .u8 0) 1 1 Tryz.underlying133 hi hz0 hz1 hz2 rfl (by decide) _ _ _ rfl (hown.alloc _) ⟨w.heap.size, 0, none⟩ 1 1 [.int .u8 (c : Int)] rfl rfl (news_cells _ #[.int .u8 (c : Int)] 5) (by simp [Value.oneCell']) (by unfold maxLen; omega) (by omega) (by simp; omega) ?_; intro v' w1 hown' hgrow _)
    go_ret
    refine ⟨_, rfl, ?_, below_app hown hBw hgrow⟩
    simpa [u8v] using hown'
  have h1' : ¬ (c : Int) < 128 := by omega
  by_cases h2 : c < 2048
  · rw [if_neg h1, if_pos h2]
    have h2' : (c : Int) < 2048 := by omega
    clear h1 h2
    go_enter Tryz.func70, Tryz.ntmps70
    go_wp2_with (at_builtin; refine wpList_append_own _ rfl _ _ 133 rfl B 5 i0 (.int .u8 0) 1 1 Tryz.underlying133 hi hz0 hz1 hz2 rfl (by decide) _ _ _ rfl (hown.alloc _) ⟨w.heap.size, 0, none⟩ 2 2 [.int .u8 (192 + (c : Int) / 64), .int .u8 (128 + (c : Int) % 64)] rfl rfl (news_cells _ #[.int .u8 (192 + (c : Int) / 64), .int .u8 (128 + (c : Int) % 64)] 5) (by simp [Value.oneCell']) (by unfold maxLen; omega) (by omega) (by simp; omega) ?_; intro v' w1 hown' hgrow _)
    go_ret
    refine ⟨_, rfl, ?_, below_app hown hBw hgrow⟩
    simpa [u8v] using hown'
  have h2' : ¬ (c : Int) < 2048 := by omega
  by_cases h3 : c < 65536
  · rw [if_neg h1, if_neg h2, if_pos h3]
    have h3' : (c : Int) < 65536 := by omega
    clear h1 h2 h3
    go_enter Tryz.func70, Tryz.ntmps70
    go_wp2_with (at_builtin; refine wpList_append_own _ rfl _ _ 133 rfl B 5 i0 (.int .u8 0) 1 1 Tryz.underlying133 hi hz0 hz1 hz2 rfl (by decide) _ _ _ rfl (hown.alloc _) ⟨w.heap.size, 0, none⟩ 3 3 [.int .u8 (224 + (c : Int) / 4096), .int .u8 (128 + (c : Int) / 64 % 64), .int .u8 (128 + (c : Int) % 64)] rfl rfl (news_cells _ #[.int .u8 (224 + (c : Int) / 4096), .int .u8 (128 + (c : Int) / 64 % 64), .int .u8 (128 + (c : Int) % 64)] 5) (by simp [Value.oneCell']) (by unfold maxLen; omega) (by omega) (by simp; omega) ?_; intro v' w1 hown' hgrow _)
    go_ret
    refine ⟨_, rfl, ?_, below_app hown hBw hgrow⟩
    simpa [u8v] using hown'
  · rw [if_neg h1, if_neg h2, if_neg h3]
    have h3' : ¬ (c : Int) < 65536 := by omega
    clear h1 h2 h3
    go_enter Tryz.func70, Tryz.ntmps70
    go_wp2_with (at_builtin; refine wpList_append_own _ rfl _ _ 133 rfl B 5 i0 (.int .u8 0) 1 1 Tryz.underlying133 hi hz0 hz1 hz2 rfl (by decide) _ _ _ rfl (hown.alloc _) ⟨w.heap.size, 0, none⟩ 4 4 [.int .u8 (240 + (c : Int) / 262144), .int .u8 (128 + (c : Int) / 4096 % 64), .int .u8 (128 + (c : Int) / 64 % 64), .int .u8 (128 + (c : Int) % 64)] rfl rfl (news_cells _ #[.int .u8 (240 + (c : Int) / 262144), .int .u8 (128 + (c : Int) / 4096 % 64), .int .u8 (128 + (c : Int) / 64 % 64), .int .u8 (128 + (c : Int) % 64)] 5) (by simp [Value.oneCell']) (by unfold maxLen; omega) (by omega) (by simp; omega) ?_; intro v' w1 hown' hgrow _)
    go_ret
    refine ⟨_, rfl, ?_, below_app hown hBw hgrow⟩
    simpa [u8v] using hown'
/-- v is a slice whose elements are the units l. -/
def Reads (w : World) (v : Value) (l : List Nat) : Prop :=
  (∃ A c, v = .slice A 0 c ∧ l = []) ∨ ∃ b off cap, v = .slice (some ⟨b, off, none⟩) l.length cap ∧ b < w.heap.size ∧ ∀ i, i < l.length → w.cell? ⟨b, off + i, none⟩ = some (.int .u16 (l.getD i 0 : Nat))
theorem Reads.same {w w' : World} {v : Value} {l : List Nat} (h : Reads w v l) (hb : Below w.heap.size w w') : Reads w' v l := by
  rcases h with h | ⟨b, off, cap, rfl, hlt, hc⟩
  · exact .inl h
  · exact .inr ⟨b, off, cap, rfl, Nat.lt_of_lt_of_le hlt hb.size, fun i hi => (hb.cell (p := ⟨b, off + i, none⟩) hlt).trans (hc i hi)⟩

theorem drop_getD (l : List Nat) (k : Nat) (h : k < l.length) : l.drop k = l.getD k 0 :: l.drop (k + 1) := by
  rw [List.drop_eq_getElem_cons h, List.getD_eq_getElem?_getD, List.getElem?_eq_getElem h]; rfl

def i64v (u : Nat) : Value := .int .i64 (u : Nat)
/-- The code points of a row, each with where it begins. -/
def rowP : Nat → List Nat → List (Nat × Nat)
  | _, [] => []
  | k, [a] => [(k, a)]
  | k, a :: b :: r => if M.isHi a && M.isLo b then (k, 65536 + 1024 * (a - 55296) + (b - 56320)) :: rowP (k + 2) r else (k, a) :: rowP (k + 1) (b :: r)
def ptCells (l : List (Nat × Nat)) : List Value := l.flatMap fun p => [i64v p.1, i64v p.2]
theorem rowP_snd : ∀ (n k : Nat) (l : List Nat), l.length ≤ n → (rowP k l).map (·.2) = M.row l := by
  intro n
  induction n with
  | zero =>
    intro k l h
    have : l = [] := List.eq_nil_of_length_eq_zero (by omega)
    subst this; rfl
  | succ n ih =>
    intro k l h
    match l, h with
    | [], _ => rfl
    | [a], _ => rfl
    | a :: b :: r, h =>
      simp only [rowP, M.row]
      split
      · simp only [List.map_cons]; rw [ih (k + 2) r (by simp at h; omega)]
      · simp only [List.map_cons]; rw [ih (k + 1) (b :: r) (by simp at h ⊢; omega)]
theorem rowP_pair (k a b : Nat) (r : List Nat) (h : (M.isHi a && M.isLo b) = true) : rowP k (a :: b :: r) = (k, 65536 + 1024 * (a - 55296) + (b - 56320)) :: rowP (k + 2) r := by
  simp only [rowP, h, if_true]
theorem rowP_single (k a : Nat) (t : List Nat) (h : ∀ b r, t = b :: r → (M.isHi a && M.isLo b) = false) : rowP k (a :: t) = (k, a) :: rowP (k + 1) t := by
  cases t with
  | nil => rfl
  | cons b r => simp [rowP, h b r rfl]
theorem info84 : (Tryz.prog.info? 138).map (fun i => (i.zero, i.size, i.bytes)) = some (some (.agg #[.int .i64 0, .int .i64 0]), 2, 16) := by kernel_rfl
theorem below_app' {B n size : Nat} {w w' : World} {v : Value} {e : TypeId} {xs : List Value} {tmp : Obj} (hown : w.ownsRow B e size v n xs) (hB : B ≤ w.heap.size) (hgrow : (w.alloc tmp).grownBy w' v.ownBlock) : Below B w w' := by
  refine ((Below.refl B w).alloc hB tmp).grown hgrow (by simp; omega) fun j ej => ?_
  rcases hown.2 with ⟨rfl, _⟩ | ⟨g, cap, cur, rfl, hb, _, _⟩
  · simp [Value.ownBlock] at ej
  · obtain rfl : g = j := by simpa [Value.ownBlock] using ej
    exact hb

set_option maxHeartbeats 2000000 in
set_option maxRecDepth 100000 in
theorem row_any (v : Value) (l : List Nat) (h16 : ∀ x ∈ l, x < 65536) (hlen : l.length ≤ 1099511627776) (w : World) (hR : Reads w v l) :
    Calls Tryz.prog 69 #[v] w fun e w' => ∃ v', e = .returned v' ∧ w'.ownsRow w.heap.size 138 2 v' (rowP 0 l).length (ptCells (rowP 0 l)) ∧ Below w.heap.size w w' := by
  obtain ⟨i0, hi, hz0, hz1, hz2⟩ := info_parts info84
  obtain ⟨A, cap, rfl, hA⟩ : ∃ A cap, v = .slice A l.length cap ∧ (∀ i, i < l.length → ∃ b off, A = some ⟨b, off, none⟩ ∧ b < w.heap.size ∧ w.cell? ⟨b, off + i, none⟩ = some (.int .u16 (l.getD i 0 : Nat))) := by
    rcases hR with ⟨A, c, rfl, rfl⟩ | ⟨b, off, cap, rfl, hlt, hc⟩
    · exact ⟨A, c, rfl, fun i hi => by simp at hi⟩
    · exact ⟨_, _, rfl, fun i hi => ⟨b, off, rfl, hlt, hc i hi⟩⟩
  have HA := hide hA; clear hA hR
  have h16' : ∀ k, k < l.length → l.getD k 0 < 65536 := fun k hk => by
    rw [List.getD_eq_getElem?_getD, List.getElem?_eq_getElem hk]; exact h16 _ (List.getElem_mem hk)
  have H16 := hide h16'; clear h16'
  go_enter Tryz.func69, Tryz.ntmps69
  go_wp2
  go_loopw [3, 4] (fun o i wr => ∃ (k : Nat) (vo : Value) (ds : List (Nat × Nat)), o = vo ∧ i = .int .i64 (k : Nat) ∧ k ≤ l.length ∧ rowP 0 l = ds ++ rowP k (l.drop k) ∧ ds.length ≤ k ∧ wr.ownsRow w.heap.size 138 2 vo ds.length (ptCells ds) ∧ Below w.heap.size w wr) (fun _ i _ => l.length - (intOf i).toNat)
  case atStart => exact ⟨0, _, [], rfl, rfl, by omega, by simp, by simp, World.ownsRow_nil _ _ _ _, Below.refl _ _⟩
  case round =>
    obtain ⟨k, vo, ds, rfl, rfl, hk, hrw, hn, hown, hB⟩ := hrel
    have HRW := hide hrw; clear hrw
    by_cases hlt : k < l.length
    · obtain ⟨b, off, rfl, hblt, hcell⟩ := unhide HA k hlt
      have hcw : wr.cell? ⟨b, off + k, none⟩ = some (.int .u16 (l.getD k 0 : Nat)) := (hB.cell (p := ⟨b, off + k, none⟩) hblt).trans hcell
      have ha := unhide H16 k hlt
      have HDR := hide (drop_getD l k hlt)
      generalize l.getD k 0 = a at *
      have HHI := hide (hiZ_nat a)
      have hk1 : (k : Int) < (l.length : Int) := by omega
      have fin1 : (∀ b' r, l.drop (k + 1) = b' :: r → (M.isHi a && M.isLo b') = false) → rowP 0 l = (ds ++ [(k, a)]) ++ rowP (k + 1) (l.drop (k + 1)) := by
        intro h
        rw [unhide HRW, unhide HDR, rowP_single k a _ h]; simp
      have FIN1 := hide fin1; clear fin1
      cases hhi : M.isHi a with
      | false =>
        go_wp2_with fail
        refine (high_any _ _).mono ?_
        rintro e w' ⟨rfl, rfl⟩
        rw [unhide HHI, hhi]
        go_wp2_with (at_builtin; refine wpList_append_own _ rfl _ _ 134 rfl w.heap.size 138 i0 (.agg #[.int .i64 0, .int .i64 0]) 2 16 Tryz.underlying134 hi hz0 hz1 hz2 rfl (by decide) _ _ _ rfl (hown.alloc _) ⟨w'.heap.size, 0, none⟩ 1 1 [.int .i64 (k : Int), .int .i64 (a : Int)] rfl rfl (news_cells _ #[.int .i64 (k : Int), .int .i64 (a : Int)] 138) (by simp [Value.oneCell']) (by unfold maxLen; omega) (by omega) (by have := hB.size; simp; omega) ?_; intro v' w1 hown' hgrow _)
        go_roundw
        case rel => exact ⟨k + 1, v', ds ++ [(k, a)], rfl, by go_num, by omega, unhide FIN1 (fun b' r _ => by simp [hhi]), by simp; omega, by simpa [ptCells, i64v] using hown', hB.trans (below_app' hown hB.size hgrow)⟩
        case measure => simp [intOf]; omega
      | true =>
        by_cases hlt2 : k + 1 < l.length
        · obtain ⟨b2, off2, hbe, hblt2, hcell2⟩ := unhide HA (k + 1) hlt2
          cases hbe
          have hcw2 : wr.cell? ⟨b, off + (k + 1), none⟩ = some (.int .u16 (l.getD (k + 1) 0 : Nat)) := (hB.cell (p := ⟨b, off + (k + 1), none⟩) hblt).trans hcell2
          have ha2 := unhide H16 (k + 1) hlt2
          have HDR2 := hide (drop_getD l (k + 1) hlt2)
          generalize l.getD (k + 1) 0 = a2 at *
          have HLO := hide (loZ_nat a2)
          have hk2 : (k : Int) + 1 < (l.length : Int) := by omega
          cases hlo : M.isLo a2 with
          | false =>
            go_wp2_with fail
            refine (high_any _ _).mono ?_
            rintro e w' ⟨rfl, rfl⟩
            rw [unhide HHI, hhi]
            go_wp2_with fail
            refine (low_any _ _).mono ?_
            rintro e w' ⟨rfl, rfl⟩
            rw [unhide HLO, hlo]
            go_wp2_with (at_builtin; refine wpList_append_own _ rfl _ _ 134 rfl w.heap.size 138 i0 (.agg #[.int .i64 0, .int .i64 0]) 2 16 Tryz.underlying134 hi hz0 hz1 hz2 rfl (by decide) _ _ _ rfl (hown.alloc _) ⟨w'.heap.size, 0, none⟩ 1 1 [.int .i64 (k : Int), .int .i64 (a : Int)] rfl rfl (news_cells _ #[.int .i64 (k : Int), .int .i64 (a : Int)] 138) (by simp [Value.oneCell']) (by unfold maxLen; omega) (by omega) (by have := hB.size; simp; omega) ?_; intro v' w1 hown' hgrow _)
            go_roundw
            case rel => exact ⟨k + 1, v', ds ++ [(k, a)], rfl, by go_num, by omega, unhide FIN1 (fun b' r e' => by rw [unhide HDR2] at e'; simp only [List.cons.injEq] at e'; rw [← e'.1, hlo]; simp), by simp; omega, by simpa [ptCells, i64v] using hown', hB.trans (below_app' hown hB.size hgrow)⟩
            case measure => simp [intOf]; omega
          | true =>
            have hb1 := (M.isHi_iff a).1 hhi
            have hb2 := (M.isLo_iff a2).1 hlo
            obtain ⟨j, hj⟩ : ∃ j : Nat, 65536 + 1024 * (a - 55296) + (a2 - 56320) = j := ⟨_, rfl⟩
            have hjb : j ≤ 1114111 := by omega
            have hjz : 65536 + 1024 * ((a : Int) - 55296) + (a2 : Int) - 56320 = (j : Int) := by omega
            have fin2 : rowP 0 l = (ds ++ [(k, j)]) ++ rowP (k + 1 + 1) (l.drop (k + 1 + 1)) := by
              rw [unhide HRW, unhide HDR, unhide HDR2, rowP_pair k a a2 _ (by simp [hhi, hlo]), hj]; simp
            have FIN2 := hide fin2; clear fin2
            have HJ := hide hj; clear hj
            go_wp2_with fail
            refine (high_any _ _).mono ?_
            rintro e w' ⟨rfl, rfl⟩
            rw [unhide HHI, hhi]
            go_wp2_with fail
            refine (low_any _ _).mono ?_
            rintro e w' ⟨rfl, rfl⟩
            rw [unhide HLO, hlo]
            clear hhi hlo
            go_wp2_with fail
            have hwr : IntKind.i64.wrap ((k : Int) + 1) = (k : Int) + 1 := by rw [IntKind.wrap_i64]; omega
            have hk0 : (0 : Int) ≤ (k : Int) + 1 := by omega
            have e1 : IntKind.i64.wrap (a : Int) = (a : Int) := by rw [IntKind.wrap_i64]; omega
            have e2 : IntKind.i64.wrap ((a : Int) - 55296) = (a : Int) - 55296 := by rw [IntKind.wrap_i64]; omega
            have e3 : IntKind.i64.wrap (1024 * ((a : Int) - 55296)) = 1024 * ((a : Int) - 55296) := by rw [IntKind.wrap_i64]; omega
            have e4 : IntKind.i64.wrap (65536 + 1024 * ((a : Int) - 55296)) = 65536 + 1024 * ((a : Int) - 55296) := by rw [IntKind.wrap_i64]; omega
            have e5 : IntKind.i64.wrap (a2 : Int) = (a2 : Int) := by rw [IntKind.wrap_i64]; omega
            have e6 : IntKind.i64.wrap (65536 + 1024 * ((a : Int) - 55296) + (a2 : Int)) = 65536 + 1024 * ((a : Int) - 55296) + (a2 : Int) := by rw [IntKind.wrap_i64]; omega
            have e7 : IntKind.i64.wrap (65536 + 1024 * ((a : Int) - 55296) + (a2 : Int) - 56320) = (j : Int) := by rw [IntKind.wrap_i64]; omega
            clear hjz
            go_region_held3 (fun X => X.cell? ⟨b, off + k, none⟩ = some (.int .u16 (a : Int)) ∧ X.cell? ⟨b, off + (k + 1), none⟩ = some (.int .u16 (a2 : Int))) (first | go_keep | (have hb' := below_app' (tmp := .cells #[.int .i64 (k : Int), .int .i64 (j : Int)] 138) hown hB.size ⟨hgrow.os, hgrow.tape, hgrow.output, hgrow.size, hgrow.block⟩; exact ⟨(hb'.cell (p := ⟨b, off + k, none⟩) hblt).trans hcw, (hb'.cell (p := ⟨b, off + (k + 1), none⟩) hblt).trans hcw2⟩))
              ((refine step_append_lies _ (by rfl) _ _ 134 (by rfl) w.heap.size 138 i0 (.agg #[.int .i64 0, .int .i64 0]) 2 16 Tryz.underlying134 hi hz0 hz1 hz2 rfl (by decide) _ _ _ (by rfl) (hown.alloc _) ⟨w'.heap.size, 0, none⟩ 1 1 [.int .i64 (k : Int), .int .i64 (j : Int)] (by rfl) rfl (news_cells _ #[.int .i64 (k : Int), .int .i64 (j : Int)] 138) (by simp [Value.oneCell']) (by omega) (by unfold maxLen; omega) (by omega) (by have := hB.size; simp; omega) (w'.heap.size + 1) (by simp) ?_; intro g cap w1 hown' hgrow hat hlt'))
            clear e1 e2 e3 e4 e5 e6 e7 hwr
            go_wp2
            go_roundw
            case rel => exact ⟨k + 1 + 1, _, ds ++ [(k, j)], rfl, by go_num, by omega, unhide FIN2, by simp; omega, by simpa [ptCells, i64v] using hown', hB.trans (below_app' (tmp := .cells #[.int .i64 (k : Int), .int .i64 (j : Int)] 138) hown hB.size ⟨hgrow.os, hgrow.tape, hgrow.output, hgrow.size, hgrow.block⟩)⟩
            case measure => simp [intOf]; omega
        · have hk2 : ¬ ((k : Int) + 1 < (l.length : Int)) := by omega
          go_wp2_with fail
          refine (high_any _ _).mono ?_
          rintro e w' ⟨rfl, rfl⟩
          rw [unhide HHI, hhi]
          go_wp2_with (at_builtin; refine wpList_append_own _ rfl _ _ 134 rfl w.heap.size 138 i0 (.agg #[.int .i64 0, .int .i64 0]) 2 16 Tryz.underlying134 hi hz0 hz1 hz2 rfl (by decide) _ _ _ rfl (hown.alloc _) ⟨w'.heap.size, 0, none⟩ 1 1 [.int .i64 (k : Int), .int .i64 (a : Int)] rfl rfl (news_cells _ #[.int .i64 (k : Int), .int .i64 (a : Int)] 138) (by simp [Value.oneCell']) (by unfold maxLen; omega) (by omega) (by have := hB.size; simp; omega) ?_; intro v' w1 hown' hgrow _)
          go_roundw
          case rel => exact ⟨k + 1, v', ds ++ [(k, a)], rfl, by go_num, by omega, unhide FIN1 (fun b' r e' => by rw [List.drop_of_length_le (by omega)] at e'; cases e'), by simp; omega, by simpa [ptCells, i64v] using hown', hB.trans (below_app' hown hB.size hgrow)⟩
          case measure => simp [intOf]; omega
    · go_wp2
      go_ret
      refine ⟨_, rfl, ?_, hB⟩
      rw [unhide HRW, List.drop_of_length_le (by omega)]
      simpa [rowP] using hown
theorem row_small (l : List Nat) (h16 : ∀ x ∈ l, x < 65536) : ∀ c ∈ M.row l, c ≤ 1114111 := (M.row_props l.length l (Nat.le_refl _) h16).1
theorem ptCells_get (l : List (Nat × Nat)) (k : Nat) (h : k < l.length) : (ptCells l)[k * 2 + 1]? = some (i64v (l[k].2)) ∧ (ptCells l)[k * 2]? = some (i64v (l[k].1)) := by
  induction l generalizing k with
  | nil => simp at h
  | cons p r ih =>
    cases k with
    | zero => simp [ptCells]
    | succ k =>
      have := ih k (by simpa using h)
      have e1 : (k + 1) * 2 + 1 = (k * 2 + 1) + 2 := by omega
      have e2 : (k + 1) * 2 = (k * 2) + 2 := by omega
      rw [e1, e2]
      simp only [ptCells, List.flatMap_cons, List.cons_append, List.nil_append, List.getElem?_cons_succ, List.getElem_cons_succ] at *
      exact this

set_option maxHeartbeats 2000000 in
set_option maxRecDepth 100000 in
theorem refOf_any (v : Value) (l : List Nat) (h16 : ∀ x ∈ l, x < 65536) (hlen : l.length ≤ 1099511627776) (w : World) (hR : Reads w v l) :
    Calls Tryz.prog 56 #[v] w fun e w' => ∃ s, e = .returned (.string s) ∧ nums s = M.ofL l ∧ Below w.heap.size w w' := by
  have hrow := row_any v l h16 hlen w hR
  have hs := row_small l h16
  have hsnd := rowP_snd l.length 0 l (Nat.le_refl _)
  have hll : (rowP 0 l).length ≤ l.length := by
    have e1 := congrArg List.length hsnd
    rw [List.length_map] at e1
    have e2 : (M.row l).length ≤ ((M.row l).flatMap M.U).length := by
      generalize M.row l = q
      induction q with
      | nil => simp
      | cons c r ih =>
        have : 1 ≤ (M.U c).length := by unfold M.U; split <;> simp
        simp only [List.flatMap_cons, List.length_append, List.length_cons]; omega
    rw [(M.row_props l.length l (Nat.le_refl _) h16).2.1] at e2
    omega
  unfold M.ofL
  rw [← hsnd] at hs ⊢
  clear hsnd
  generalize rowP 0 l = rp at *
  have HROW := hide hrow; clear hrow
  have hs' : ∀ k (h : k < rp.length), (rp[k]).2 ≤ 1114111 := fun k h => hs _ (List.mem_map_of_mem (List.getElem_mem h))
  have HS := hide hs'; clear hs'
  go_enter Tryz.func56, Tryz.ntmps56
  go_wp2_with fail
  refine (unhide HROW).mono ?_
  rintro e w1 ⟨vp, rfl, hown, hb⟩
  obtain ⟨A, cap, rfl, hA⟩ : ∃ A cap, vp = .slice A rp.length cap ∧ (∀ i (h : i < rp.length), ∃ g, A = some ⟨g, 0, none⟩ ∧ g < w1.heap.size ∧ w1.cell? ⟨g, i * 2 + 1, none⟩ = some (.int .i64 (rp[i].2 : Nat))) := by
    rcases hown.2 with ⟨rfl, h0⟩ | ⟨g, cap, cur, rfl, hBg, hgb, hnc, hcm, hcs, htk⟩
    · exact ⟨none, 0, by rw [h0], fun i hi => by omega⟩
    · refine ⟨_, _, rfl, fun i hi => ⟨g, rfl, (Array.getElem?_eq_some_iff.1 hgb).1, ?_⟩⟩
      rw [hown.cellAt (i * 2 + 1) (by omega)]
      exact (ptCells_get rp i hi).1
  have HA := hide hA; clear hA
  go_wp2
  go_loopw [3, 5] (fun b i wr => ∃ (k n : Nat) (vb : Value), b = vb ∧ i = .int .i64 (k : Nat) ∧ k ≤ rp.length ∧ n ≤ 4 * k ∧ wr.ownsRow w1.heap.size 5 1 vb n (((rp.take k).map (·.2)).flatMap M.E |>.map u8v) ∧ Below w1.heap.size w1 wr) (fun _ i _ => rp.length - (intOf i).toNat)
  case atStart => exact ⟨0, 0, _, rfl, rfl, by omega, by omega, World.ownsRow_nil _ _ _ _, Below.refl _ _⟩
  case round =>
    obtain ⟨k, n, vb, rfl, rfl, hk, hn, hownb, hB⟩ := hrel
    by_cases hlt : k < rp.length
    · obtain ⟨g, rfl, hglt, hcell⟩ := unhide HA k hlt
      have hcw : wr.cell? ⟨g, k * 2 + 1, none⟩ = some (.int .i64 (rp[k].2 : Nat)) := (hB.cell (p := ⟨g, k * 2 + 1, none⟩) hglt).trans hcell
      have hc := unhide HS k hlt
      have htk : rp.take (k + 1) = rp.take k ++ [rp[k]] := List.take_succ_eq_append_getElem hlt
      have HTK := hide htk; clear htk
      have henc := put_any w1.heap.size n u3 _ rp[k].2 hc wr hownb (by omega) hB.size
      have HENC := hide henc; clear henc
      have hE4 := M.E_len rp[k].2
      generalize hcc : rp[k].2 = c at *
      have HCC := hide hcc; clear hcc
      have hk1 : (k : Int) < (rp.length : Int) := by omega
      go_wp2_with fail
      refine (unhide HENC).mono ?_
      rintro e w2 ⟨vb2, rfl, hown2, hb2⟩
      go_wp2
      go_roundw
      case rel => exact ⟨k + 1, n + (M.E c).length, vb2, rfl, by go_num, by omega, by omega, by rw [unhide HTK, List.map_append, List.flatMap_append, List.map_append]; simpa [unhide HCC] using hown2, hB.trans hb2⟩
      case measure => simp [intOf]; omega
    · obtain ⟨s, hconv, hns⟩ := run_str wr w1.heap.size n u3 (((rp.take k).map (·.2)).flatMap M.E) hownb (fun x hx => by
        rw [List.mem_flatMap] at hx; obtain ⟨c, hc, hx⟩ := hx
        rw [List.mem_map] at hc
        obtain ⟨p, hp, rfl⟩ := hc
        exact E_256 _ (hs _ (List.mem_map_of_mem (List.mem_of_mem_take hp))) x hx)
      have HNS := hide hns; clear hns
      go_wp2
      go_ret
      refine ⟨s, rfl, ?_, hb.trans (hB.mono hb.size)⟩
      rw [unhide HNS, List.take_of_length_le (by omega)]

def tailZ (n : Nat) (l : List Nat) (c : Nat) : Int := match M.tailN n l c with
  | some c => (c : Int)
  | none => -1
theorem tail_bound : ∀ (n : Nat) (l : List Nat) (c d : Nat), M.tailN n l c = some d → d < 64 ^ n * (c + 1)
  | 0, _, c, d, h => by simp [M.tailN] at h; omega
  | n + 1, l, c, d, h => by
    unfold M.tailN at h
    split at h
    · simp at h
    · split at h
      · simp at h
      · rename_i b t hb
        have := tail_bound n t (64 * c + (b - 128)) d h
        have h2 : 64 ^ n * (64 * c + (b - 128) + 1) ≤ 64 ^ n * (64 * (c + 1)) := Nat.mul_le_mul_left _ (by omega)
        rw [Nat.pow_succ]
        have h3 : 64 ^ n * 64 * (c + 1) = 64 ^ n * (64 * (c + 1)) := by rw [Nat.mul_assoc]
        omega
set_option maxHeartbeats 2000000 in
set_option maxRecDepth 100000 in
theorem tail_any (s : ByteArray) (p n : Nat) (hn : n ≤ 3) (hp : p ≤ s.size) (hsz : s.size ≤ 1099511627776) (w : World) :
    Calls Tryz.prog 68 #[.string s, .int .i64 (p : Nat), .int .i64 (n : Nat)] w fun e w' => e = .returned (.int .i64 (tailZ n ((nums s).drop p) 0)) ∧ w' = w := by
  go_enter Tryz.func68, Tryz.ntmps68
  go_wp2
  go_loop [7, 8] (fun c i => ∃ (k d : Nat), i = .int .i64 (k : Nat) ∧ c = .int .i64 (d : Nat) ∧ k ≤ n ∧ p + k ≤ s.size ∧ d < 64 ^ k ∧ M.tailN n ((nums s).drop p) 0 = M.tailN (n - k) ((nums s).drop (p + k)) d) (fun _ i => n - (intOf i).toNat)
  case atStart => exact ⟨0, 0, rfl, rfl, by omega, by omega, by simp, rfl⟩
  case round =>
    obtain ⟨k, d, rfl, rfl, hk, hpk, hd, ht⟩ := hrel
    have HT := hide ht; clear ht
    by_cases hlt : k < n
    · have hd2 : d < 4096 := Nat.lt_of_lt_of_le hd (by
        have : k ≤ 2 := by omega
        have h2 : 64 ^ k ≤ 64 ^ 2 := Nat.pow_le_pow_right (by omega) this
        simpa using h2)
      have hk1 : (k : Int) < (n : Int) := by omega
      by_cases hin : p + k < s.size
      · have hi1 : (p : Int) + (k : Int) < (s.size : Int) := by omega
        obtain ⟨x, hx⟩ : ∃ x, s[p + k]'hin = x := ⟨_, rfl⟩
        have hget : (nums s).getD (p + k) 0 = x.toNat := by rw [nums_get s (p + k) hin, hx]
        have hdr : (nums s).drop (p + k) = x.toNat :: (nums s).drop (p + k + 1) := by
          rw [drop_getD _ _ (by rw [nums_len]; exact hin), hget]
        have HDR := hide hdr; clear hdr hget
        have hxl := x.toNat_lt
        obtain ⟨m, hm⟩ : ∃ m, n - k = m + 1 := ⟨n - k - 1, by omega⟩
        have hm2 : n - (k + 1) = m := by omega
        have hstep : M.tailN n ((nums s).drop p) 0 = if x.toNat < 128 ∨ 191 < x.toNat then none else M.tailN m ((nums s).drop (p + k + 1)) (64 * d + (x.toNat - 128)) := by
          rw [unhide HT, unhide HDR, hm]; rfl
        have HST := hide hstep; clear hstep
        have HM := hide hm2; clear hm hm2
        by_cases c1 : x.toNat < 128
        · have c1' : (x.toNat : Int) < 128 := by omega
          clear c1
          go_wp2
          go_ret
          refine ⟨ret_int ?_, rfl⟩
          unfold tailZ; rw [unhide HST, if_pos (Or.inl (by omega))]
        · by_cases c2 : 191 < x.toNat
          · have c1' : ¬ (x.toNat : Int) < 128 := by omega
            have c2' : (191 : Int) < (x.toNat : Int) := by omega
            clear c1 c2
            go_wp2
            go_ret
            refine ⟨ret_int ?_, rfl⟩
            unfold tailZ; rw [unhide HST, if_pos (Or.inr (by omega))]
          · have c1' : ¬ (x.toNat : Int) < 128 := by omega
            have c2' : ¬ (191 : Int) < (x.toNat : Int) := by omega
            go_wp2
            go_round
            case rel =>
              refine ⟨k + 1, 64 * d + (x.toNat - 128), by go_num, by congr 1; omega, by omega, by omega, ?_, ?_⟩
              · rw [Nat.pow_succ]; omega
              · rw [unhide HM, unhide HST, if_neg (by omega)]; rfl
            case measure => simp [intOf]; omega
      · have hi1 : ¬ ((p : Int) + (k : Int) < (s.size : Int)) := by omega
        obtain ⟨m, hm⟩ : ∃ m, n - k = m + 1 := ⟨n - k - 1, by omega⟩
        have HM := hide hm; clear hm
        go_wp2
        go_ret
        refine ⟨ret_int ?_, rfl⟩
        unfold tailZ; rw [unhide HT, unhide HM, List.drop_of_length_le (by rw [nums_len]; omega)]; rfl
    · have hk1 : ¬ (k : Int) < (n : Int) := by omega
      go_wp2
      go_ret
      refine ⟨ret_int ?_, rfl⟩
      unfold tailZ; rw [unhide HT, show n - k = 0 by omega]; rfl
