import Derived.Test.YtclahchmdcgdhaaGi
namespace Go.Proofs.Ytclahchmdcgdhaa
open Go.RowKit
/-- v is a slice whose elements are the digits l. -/
def ReadsD (w : World) (v : Value) (l : List Nat) : Prop :=
  ∃ A cap, v = .slice A l.length cap ∧ (∀ i, i < l.length → ∃ b off, A = some ⟨b, off, none⟩ ∧ b < w.heap.size ∧ w.cell? ⟨b, off + i, none⟩ = some (.int .i64 (l.getD i 0 : Nat)))
theorem rt2 {a b : Int} (h : b = a) : Ending.returned (.int .i64 a) = Ending.returned (.int .i64 b) := by rw [h]
theorem below2 (w : World) (a b : Obj) : Below w.heap.size w ((w.alloc a).alloc b) := ((Below.refl _ w).alloc (Nat.le_refl _) a).trans (((Below.refl _ _).alloc (by simp) b))
set_option maxHeartbeats 2000000 in
set_option maxRecDepth 100000 in
theorem compare_any (va vb : Value) (D E : List Nat) (P Q : Int) (hD : D.length ≤ 1000000) (hE : E.length ≤ 1000000) (hD0 : D ≠ []) (hE0 : E ≠ []) (w : World) (hRD : ReadsD w va D) (hRE : ReadsD w vb E) :
    Calls Try.prog 52 #[.agg #[va, .int .i64 P], .agg #[vb, .int .i64 Q]] w fun e w' => e = .returned (.int .i64 (cmpD D P E Q)) ∧ Below w.heap.size w w' := by
  obtain ⟨A, cap, rfl, hA⟩ := hRD
  obtain ⟨A', cap', rfl, hA'⟩ := hRE
  have HA : Hid _ := ⟨hA⟩; clear hA
  have HA' : Hid _ := ⟨hA'⟩; clear hA'
  have h1 : 0 < D.length := List.length_pos_iff.2 hD0
  have h2 : 0 < E.length := List.length_pos_iff.2 hE0
  have e0 : cmpD D P E Q = if P ≠ Q then (if P < Q then -1 else 1) else cmpL D E := by unfold cmpD; rw [if_neg (by omega)]
  rw [e0]
  clear e0
  have g1 : ¬ (D.length : Int) = 0 := by omega
  have g2 : ¬ (E.length : Int) = 0 := by omega
  have g3 : ((D.length : Int) == 0) = false := by simpa using g1
  have g4 : ((E.length : Int) == 0) = false := by simpa using g2
  by_cases hPQ : P = Q
  · subst hPQ
    rw [if_neg (by simp)]
    clear g1 g2
    go_enter Try.func52, Try.ntmps52
    go_wp2
    go_loop [5, 6, 7] (fun iv _ _ => ∃ k : Nat, iv = .int .i64 (k : Nat) ∧ k ≤ 1000000 ∧ cmpL D E = cmpL (D.drop k) (E.drop k)) (fun iv _ _ => 1000000 - (intOf iv).toNat)
    case atStart => exact ⟨0, rfl, by omega, rfl⟩
    case round =>
      obtain ⟨k, rfl, hk, hrw⟩ := hrel
      have HRW : Hid _ := ⟨hrw⟩; clear hrw
      by_cases hkD : k < D.length
      · obtain ⟨b, off, rfl, hblt, hcell⟩ := HA.it k hkD
        have HDR : Hid _ := ⟨drop_getD D k hkD⟩
        generalize D.getD k 0 = x at *
        have hk1 : (k : Int) < (D.length : Int) := by omega
        by_cases hkE : k < E.length
        · obtain ⟨b', off', rfl, hblt', hcell'⟩ := HA'.it k hkE
          have HDR' : Hid _ := ⟨drop_getD E k hkE⟩
          generalize E.getD k 0 = y at *
          have hk2 : (k : Int) < (E.length : Int) := by omega
          rcases Nat.lt_trichotomy x y with hxy | hxy | hxy
          · have hxi : (x : Int) < (y : Int) := by omega
            have hxn : ((x : Int) == (y : Int)) = false := by simp; omega
            go_wp2
            go_ret
            refine ⟨rt2 ?_, below2 w _ _⟩
            rw [HRW.it, HDR.it, HDR'.it]; simp only [cmpL]; rw [if_neg (by omega), if_pos hxy]
          · subst hxy
            go_wp2
            refine ⟨⟨k + 1, by go_num, by omega, ?_⟩, by simp [intOf]; omega⟩
            rw [HRW.it, HDR.it, HDR'.it]; simp [cmpL]
          · have hxi : (y : Int) < (x : Int) := by omega
            have hxn : ((x : Int) == (y : Int)) = false := by simp; omega
            go_wp2
            go_ret
            refine ⟨rt2 ?_, below2 w _ _⟩
            rw [HRW.it, HDR.it, HDR'.it]; simp only [cmpL]; rw [if_neg (by omega), if_neg (by omega)]
        · have hE1 : Hid (E.drop k = [] ∧ E.drop (k + 1) = []) := ⟨List.drop_eq_nil_of_le (by omega), List.drop_eq_nil_of_le (by omega)⟩
          have hk2 : (E.length : Int) ≤ (k : Int) := by omega
          by_cases hx : x = 0
          · subst hx
            go_wp2
            refine ⟨⟨k + 1, by go_num, by omega, ?_⟩, by simp [intOf]; omega⟩
            rw [HRW.it, HDR.it, hE1.it.1, hE1.it.2]; simp [cmpL]
          · have hxi : (0 : Int) < (x : Int) := by omega
            have hxn : ((x : Int) == 0) = false := by simp; omega
            go_wp2
            go_ret
            refine ⟨rt2 ?_, below2 w _ _⟩
            rw [HRW.it, HDR.it, hE1.it.1]; simp only [cmpL]; rw [if_neg hx]
      · have hD1 : Hid (D.drop k = [] ∧ D.drop (k + 1) = []) := ⟨List.drop_eq_nil_of_le (by omega), List.drop_eq_nil_of_le (by omega)⟩
        have hk1 : (D.length : Int) ≤ (k : Int) := by omega
        by_cases hkE : k < E.length
        · obtain ⟨b', off', rfl, hblt', hcell'⟩ := HA'.it k hkE
          have HDR' : Hid _ := ⟨drop_getD E k hkE⟩
          generalize E.getD k 0 = y at *
          have hk2 : (k : Int) < (E.length : Int) := by omega
          by_cases hx : y = 0
          · subst hx
            go_wp2
            refine ⟨⟨k + 1, by go_num, by omega, ?_⟩, by simp [intOf]; omega⟩
            rw [HRW.it, HDR'.it, hD1.it.1, hD1.it.2]; simp [cmpL]
          · have hxi : (0 : Int) < (y : Int) := by omega
            have hxn : ((0 : Int) == (y : Int)) = false := by simp; omega
            go_wp2
            go_ret
            refine ⟨rt2 ?_, below2 w _ _⟩
            rw [HRW.it, HDR'.it, hD1.it.1]; simp only [cmpL]; rw [if_neg hx]
        · have hE1 : Hid (E.drop k = []) := ⟨List.drop_eq_nil_of_le (by omega)⟩
          have hk2 : (E.length : Int) ≤ (k : Int) := by omega
          go_wp2
          go_ret
          refine ⟨rt2 ?_, below2 w _ _⟩
          rw [HRW.it, hE1.it, hD1.it.1]; simp only [cmpL]
  · rw [if_pos hPQ]
    have g5 : (P == Q) = false := by simpa using hPQ
    by_cases hlt : P < Q
    · rw [if_pos hlt]
      go_enter Try.func52, Try.ntmps52
      go_wp2
      go_ret
      exact ⟨rfl, below2 w _ _⟩
    · rw [if_neg hlt]
      have hgt : Q < P := by omega
      go_enter Try.func52, Try.ntmps52
      go_wp2
      go_ret
      exact ⟨rfl, below2 w _ _⟩
end Go.Proofs.Ytclahchmdcgdhaa
