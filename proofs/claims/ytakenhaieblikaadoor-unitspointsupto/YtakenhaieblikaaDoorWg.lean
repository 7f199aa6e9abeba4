import Derived.Test.YtakenhaieblikaaDoorWf
import Derived.LoopTactic
namespace Go.Proofs.YtakenhaieblikaaDoor
open Go.RowKit Go.Shelf

/-- v is a slice whose elements are the units l. -/
def Reads (w : World) (v : Value) (l : List Nat) : Prop :=
  (∃ A c, v = .slice A 0 c ∧ l = []) ∨ ∃ b off cap, v = .slice (some ⟨b, off, none⟩) l.length cap ∧ b < w.heap.size ∧ ∀ i, i < l.length → w.cell? ⟨b, off + i, none⟩ = some (.int .u16 (l.getD i 0 : Nat))
theorem Reads.same {w w' : World} {v : Value} {l : List Nat} (h : Reads w v l) (hb : Below w.heap.size w w') : Reads w' v l := by
  rcases h with h | ⟨b, off, cap, rfl, hlt, hc⟩
  · exact .inl h
  · exact .inr ⟨b, off, cap, rfl, Nat.lt_of_lt_of_le hlt hb.size, fun i hi => (hb.cell (p := ⟨b, off + i, none⟩) hlt).trans (hc i hi)⟩

theorem row_pair (a b : Nat) (r : List Nat) (h : (M.isHi a && M.isLo b) = true) : M.row (a :: b :: r) = (65536 + 1024 * (a - 55296) + (b - 56320)) :: M.row r := by
  simp only [M.row, h, if_true]
theorem row_single (a : Nat) (t : List Nat) (h : ∀ b r, t = b :: r → (M.isHi a && M.isLo b) = false) : M.row (a :: t) = a :: M.row t := M.row_cons_of a t h
theorem drop_getD (l : List Nat) (k : Nat) (h : k < l.length) : l.drop k = l.getD k 0 :: l.drop (k + 1) := by
  rw [List.drop_eq_getElem_cons h, List.getD_eq_getElem?_getD, List.getElem?_eq_getElem h]; rfl

set_option maxHeartbeats 2000000 in
set_option maxRecDepth 100000 in
theorem of_any (v : Value) (l : List Nat) (h16 : ∀ x ∈ l, x < 65536) (hlen : l.length ≤ 1099511627776) (w : World) (hR : Reads w v l) :
    Calls Tryd.prog 19 #[v] w fun e w' => ∃ s, e = .returned (.string s) ∧ nums s = M.ofL l ∧ Below w.heap.size w w' := by
  obtain ⟨i0, hi, hz0, hz1, hz2⟩ := info_parts info5
  obtain ⟨wm, hmake, hrow0, hgrow0⟩ := run_make_own (P := Tryd.prog) w w.heap.size 70 5 i0 _ 1 Tryd.underlying70 hi hz0 hz1 .i64 .i64 l.length (by rw [hz2]; omega) (by unfold maxLen; omega) (Nat.le_refl _)
  have hBm : Below w.heap.size w wm := ⟨hgrow0.os, hgrow0.tape, hgrow0.output, hgrow0.size, fun k hk => hgrow0.block k hk (by simp)⟩
  obtain ⟨A, cap, rfl, hA⟩ : ∃ A cap, v = .slice A l.length cap ∧ (∀ i, i < l.length → ∃ b off, A = some ⟨b, off, none⟩ ∧ b < w.heap.size ∧ w.cell? ⟨b, off + i, none⟩ = some (.int .u16 (l.getD i 0 : Nat))) := by
    rcases hR with ⟨A, c, rfl, rfl⟩ | ⟨b, off, cap, rfl, hlt, hc⟩
    · exact ⟨A, c, rfl, fun i hi => by simp at hi⟩
    · exact ⟨_, _, rfl, fun i hi => ⟨b, off, rfl, hlt, hc i hi⟩⟩
  have HA := hide hA; clear hA hR
  have h16' : ∀ k, k < l.length → l.getD k 0 < 65536 := fun k hk => by
    rw [List.getD_eq_getElem?_getD, List.getElem?_eq_getElem hk]; exact h16 _ (List.getElem_mem hk)
  have H16 := hide h16'; clear h16'
  go_enter Tryd.func19, Tryd.ntmps19
  go_wp2
  go_loopw [3, 4, 5] (fun b i c wr => ∃ (k n : Nat) (vb : Value) (ds : List Nat), b = vb ∧ i = .int .i64 (k : Nat) ∧ k ≤ l.length ∧ M.row l = ds ++ M.row (l.drop k) ∧ n ≤ 4 * k ∧ wr.ownsRow w.heap.size 5 1 vb n ((ds.flatMap M.E).map u8v) ∧ Below w.heap.size w wr ∧ (∀ x ∈ ds, x ≤ 1114111)) (fun _ i _ _ => l.length - (intOf i).toNat)
  case atStart => exact ⟨0, 0, _, [], rfl, rfl, by omega, by simp, by omega, hrow0, hBm, by simp⟩
  case round =>
    obtain ⟨k, n, vb, ds, rfl, rfl, hk, hrw, hn, hown, hB, hds⟩ := hrel
    have HRW := hide hrw; clear hrw
    by_cases hlt : k < l.length
    · obtain ⟨b, off, rfl, hblt, hcell⟩ := unhide HA k hlt
      have hcw : wr.cell? ⟨b, off + k, none⟩ = some (.int .u16 (l.getD k 0 : Nat)) := (hB.cell (p := ⟨b, off + k, none⟩) hblt).trans hcell
      have ha := unhide H16 k hlt
      have HDR := hide (drop_getD l k hlt)
      generalize l.getD k 0 = a at *
      have hhi : hiZ (a : Int) = M.isHi a := hiZ_nat a
      have HHI := hide hhi; clear hhi
      have hk1 : (k : Int) < (l.length : Int) := by omega
      have fin1 : (∀ b' r, l.drop (k + 1) = b' :: r → (M.isHi a && M.isLo b') = false) → M.row l = (ds ++ [a]) ++ M.row (l.drop (k + 1)) := by
        intro h
        rw [unhide HRW, unhide HDR, row_single a _ h]; simp
      have FIN1 := hide fin1; clear fin1
      have henc := encode_any w.heap.size n u3 _ a (by omega) wr hown (by omega) hB.size
      have HENC := hide henc; clear henc
      have hds1 : ∀ x ∈ ds ++ [a], x ≤ 1114111 := by
        intro x hx; rw [List.mem_append] at hx
        rcases hx with hx | hx
        · exact hds x hx
        · simp at hx; omega
      have hE4 := M.E_len a
      cases hhi : M.isHi a with
      | false =>
        go_wp2_with fail
        refine (isHigh_any _ _).mono ?_
        rintro e w' ⟨rfl, rfl⟩
        rw [unhide HHI, hhi]
        go_wp2_with fail
        refine (unhide HENC).mono ?_
        rintro e w2 ⟨vb2, rfl, hown2, hb2⟩
        go_wp2
        go_roundw
        case rel => exact ⟨k + 1, n + (M.E a).length, vb2, ds ++ [a], rfl, by go_num, by omega, unhide FIN1 (fun b' r _ => by simp [hhi]), by omega, by simpa using hown2, hB.trans hb2, hds1⟩
        case measure => simp [intOf]; omega
      | true =>
        by_cases hlt2 : k + 1 < l.length
        · obtain ⟨b2, off2, hbe, hblt2, hcell2⟩ := unhide HA (k + 1) hlt2
          cases hbe
          have hcw2 : wr.cell? ⟨b, off + (k + 1), none⟩ = some (.int .u16 (l.getD (k + 1) 0 : Nat)) := (hB.cell (p := ⟨b, off + (k + 1), none⟩) hblt).trans hcell2
          have ha2 := unhide H16 (k + 1) hlt2
          have HDR2 := hide (drop_getD l (k + 1) hlt2)
          generalize l.getD (k + 1) 0 = a2 at *
          have HLO := hide (loZ_nat a2)
          have hk2 : (k : Int) + 1 < (l.length : Int) := by omega
          cases hlo : M.isLo a2 with
          | false =>
            go_wp2_with fail
            refine (isHigh_any _ _).mono ?_
            rintro e w' ⟨rfl, rfl⟩
            rw [unhide HHI, hhi]
            go_wp2_with fail
            refine (isLow_any _ _).mono ?_
            rintro e w' ⟨rfl, rfl⟩
            rw [unhide HLO, hlo]
            go_wp2_with fail
            refine (unhide HENC).mono ?_
            rintro e w2 ⟨vb2, rfl, hown2, hb2⟩
            go_wp2
            go_roundw
            case rel => exact ⟨k + 1, n + (M.E a).length, vb2, ds ++ [a], rfl, by go_num, by omega, unhide FIN1 (fun b' r e' => by rw [unhide HDR2] at e'; simp only [List.cons.injEq] at e'; rw [← e'.1, hlo]; simp), by omega, by simpa using hown2, hB.trans hb2, hds1⟩
            case measure => simp [intOf]; omega
          | true =>
            have hb1 := (M.isHi_iff a).1 hhi
            have hb2 := (M.isLo_iff a2).1 hlo
            obtain ⟨j, hj⟩ : ∃ j : Nat, 65536 + 1024 * (a - 55296) + (a2 - 56320) = j := ⟨_, rfl⟩
            have hjb : j ≤ 1114111 := by omega
            have hjz : 65536 + 1024 * ((a : Int) - 55296) + ((a2 : Int) - 56320) = (j : Int) := by omega
            have HJZ := hide hjz; clear hjz
            have fin2 : M.row l = (ds ++ [j]) ++ M.row (l.drop (k + 1 + 1)) := by
              rw [unhide HRW, unhide HDR, unhide HDR2, row_pair a a2 _ (by simp [hhi, hlo]), hj]; simp
            have FIN2 := hide fin2; clear fin2
            have HJ := hide hj; clear hj
            have henc2 := encode_any w.heap.size n u3 _ j hjb wr hown (by omega) hB.size
            have HENC2 := hide henc2; clear henc2
            have hE5 := M.E_len j
            have hds2 : ∀ x ∈ ds ++ [j], x ≤ 1114111 := by
              intro x hx; rw [List.mem_append] at hx
              rcases hx with hx | hx
              · exact hds x hx
              · simp at hx; omega
            go_wp2_with fail
            refine (isHigh_any _ _).mono ?_
            rintro e w' ⟨rfl, rfl⟩
            rw [unhide HHI, hhi]
            go_wp2_with fail
            refine (isLow_any _ _).mono ?_
            rintro e w' ⟨rfl, rfl⟩
            rw [unhide HLO, hlo]
            go_wp2_with fail
            refine (join_any _ _ (by omega) (by omega) (by omega) (by omega) _).mono ?_
            rintro e w' ⟨rfl, rfl⟩
            rw [unhide HJZ]
            go_wp2_with fail
            refine (unhide HENC2).mono ?_
            rintro e w2 ⟨vb2, rfl, hown2, hb2⟩
            go_wp2
            go_roundw
            case rel => exact ⟨k + 1 + 1, n + (M.E j).length, vb2, ds ++ [j], rfl, by go_num, by omega, unhide FIN2, by omega, by simpa using hown2, hB.trans hb2, hds2⟩
            case measure => simp [intOf]; omega
        · have hk2 : ¬ ((k : Int) + 1 < (l.length : Int)) := by omega
          go_wp2_with fail
          refine (isHigh_any _ _).mono ?_
          rintro e w' ⟨rfl, rfl⟩
          rw [unhide HHI, hhi]
          go_wp2_with fail
          refine (unhide HENC).mono ?_
          rintro e w2 ⟨vb2, rfl, hown2, hb2⟩
          go_wp2
          go_roundw
          case rel => exact ⟨k + 1, n + (M.E a).length, vb2, ds ++ [a], rfl, by go_num, by omega, unhide FIN1 (fun b' r e' => by rw [List.drop_of_length_le (by omega)] at e'; cases e'), by omega, by simpa using hown2, hB.trans hb2, hds1⟩
          case measure => simp [intOf]; omega
    · obtain ⟨s, hconv, hns⟩ := run_str wr w.heap.size n u3 (ds.flatMap M.E) hown (fun x hx => by
        rw [List.mem_flatMap] at hx; obtain ⟨c, hc, hx⟩ := hx; exact E_256 c (hds c hc) x hx)
      have HNS := hide hns; clear hns
      go_wp2
      go_ret
      refine ⟨s, rfl, ?_, hB⟩
      rw [unhide HNS, M.ofL, unhide HRW, List.drop_of_length_le (by omega)]
      simp [M.row]
end Go.Proofs.YtakenhaieblikaaDoor
