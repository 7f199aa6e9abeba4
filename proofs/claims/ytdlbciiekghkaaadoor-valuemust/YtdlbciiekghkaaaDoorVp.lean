import Derived.Test.YtdlbciiekghkaaaDoorVj
import Derived.Recover
import Derived.WalkSmall
namespace Go.Proofs.YtdlbciiekghkaaaDoor
open Go.RowKit FM
attribute [local go_sem] bits_run run_store_float ta56 ta57 ta58 ta59 ta79 ta81 ta82
theorem is_k (t : TypeId) (x : Value) (w : World) (k : Int) (u : TypeId) (h : (k, u) ∈ [((1 : Int), 56), (2, 57), (3, 58), (4, 59), (5, 79), (6, 81), (7, 82)]) :
    Calls Tryd.prog 56 #[.iface t x, .int .i64 k] w fun e w' => e = .returned (.bool (decide (t = u))) ∧ w' = w := by
  simp only [List.mem_cons, Prod.mk.injEq, List.mem_nil_iff, or_false] at h
  by_cases ht : t = u
  · subst ht
    rcases h with ⟨rfl, rfl⟩ | ⟨rfl, rfl⟩ | ⟨rfl, rfl⟩ | ⟨rfl, rfl⟩ | ⟨rfl, rfl⟩ | ⟨rfl, rfl⟩ | ⟨rfl, rfl⟩
    all_goals
      go_enter Tryd.func56, Tryd.ntmps56
      go_wp2
      go_ret
      exact ⟨rfl, rfl⟩
  · rcases h with ⟨rfl, rfl⟩ | ⟨rfl, rfl⟩ | ⟨rfl, rfl⟩ | ⟨rfl, rfl⟩ | ⟨rfl, rfl⟩ | ⟨rfl, rfl⟩ | ⟨rfl, rfl⟩
    all_goals
      rw [decide_eq_false ht]
      have ht' := eq_false ht
      go_enter Tryd.func56, Tryd.ntmps56
      go_wp2
      go_ret
      exact ⟨rfl, rfl⟩
theorem is_o (t : TypeId) (x : Value) (w : World) (k : Int) (h : k < 1 ∨ 7 < k) :
    Calls Tryd.prog 56 #[.iface t x, .int .i64 k] w fun e w' => e = .returned (.bool false) ∧ w' = w := by
  have h1 : (k == 1) = false := by rw [beq_eq_false_iff_ne]; omega
  have h2 : (k == 2) = false := by rw [beq_eq_false_iff_ne]; omega
  have h3 : (k == 3) = false := by rw [beq_eq_false_iff_ne]; omega
  have h4 : (k == 4) = false := by rw [beq_eq_false_iff_ne]; omega
  have h5 : (k == 5) = false := by rw [beq_eq_false_iff_ne]; omega
  have h6 : (k == 6) = false := by rw [beq_eq_false_iff_ne]; omega
  have h7 : (k == 7) = false := by rw [beq_eq_false_iff_ne]; omega
  clear h
  go_enter Tryd.func56, Tryd.ntmps56
  go_wp2
  go_ret
  exact ⟨rfl, rfl⟩
theorem is_any (v : VV) (h : v.good = true) (k : Int) (w : World) : Calls Tryd.prog 56 #[v.ifc, .int .i64 k] w fun e w' => e = .returned (.bool (decide (k = v.k))) ∧ w' = w := by
  have e1 : v.k = 1 ∨ v.k = 2 ∨ v.k = 3 ∨ v.k = 4 ∨ v.k = 5 ∨ v.k = 6 ∨ v.k = 7 := by
    rcases good_cases h with ⟨h, -⟩ | ⟨h, -⟩ | ⟨h, -⟩ | ⟨h, -⟩ | ⟨h, -⟩ | ⟨h, -⟩ | ⟨h, -⟩ <;> omega
  rw [ifc_eq]
  by_cases hk : k < 1 ∨ 7 < k
  · rw [decide_eq_false (by omega)]
    exact is_o _ _ w k hk
  · have e2 : k = 1 ∨ k = 2 ∨ k = 3 ∨ k = 4 ∨ k = 5 ∨ k = 6 ∨ k = 7 := by omega
    have hb : decide (k = v.k) = decide (tyK v.k = tyK k) := by
      generalize v.k = j at *
      clear h hk
      rcases e1 with rfl | rfl | rfl | rfl | rfl | rfl | rfl <;> rcases e2 with rfl | rfl | rfl | rfl | rfl | rfl | rfl <;> rfl
    rw [hb]
    refine is_k _ _ w k _ ?_
    clear hb hk e1
    rcases e2 with rfl | rfl | rfl | rfl | rfl | rfl | rfl <;> simp [tyK]
set_option maxRecDepth 100000 in
theorem must_bad (v : VV) (hg : v.good = false) (k : Int) (w : World) (hT : Lib.Utf8Tabs 1 2 w) :
    Calls Tryd.prog 43 #[.int .i64 k, v.agg] w fun e w' => ∃ B, e = .panicked [{ v := .iface 41 (.pointer (some ⟨B, 0, none⟩)), recovered := false }] ∧ w.heap.size ≤ B ∧ w'.cell? ⟨B, 0, none⟩ = some (.int .i64 k) ∧ w'.cell? ⟨B, 1, none⟩ = some (.int .i64 0) ∧ Below w.heap.size w w' := by
  have HI := hide (fun w hT => inside_bad v hg w hT)
  have HT := hide hT
  clear hg hT
  obtain ⟨k', b, x, s, i⟩ := v
  unfold VV.agg at *
  dsimp only at *
  go_enter Tryd.func43, Tryd.ntmps43
  go_wp2_with fail
  refine (unhide HI _ (tabs_below (unhide HT) (below2 ..))).mono ?_
  rintro e w1 ⟨rfl, hb⟩
  have hB := (below2 w _ _).trans (hb.mono (by simp; omega))
  clear hb HI HT
  go_wp2
  exact ⟨rfl, w1.heap.size, rfl, hB.size, by simp [go_sem], by simp [go_sem], hB.alloc hB.size _⟩
set_option maxRecDepth 100000 in
theorem must_kind (v : VV) (hg : v.good = true) (k : Int) (hk : k ≠ v.k) (w : World) (hT : Lib.Utf8Tabs 1 2 w) :
    Calls Tryd.prog 43 #[.int .i64 k, v.agg] w fun e w' => ∃ B, e = .panicked [{ v := .iface 41 (.pointer (some ⟨B, 0, none⟩)), recovered := false }] ∧ w.heap.size ≤ B ∧ w'.cell? ⟨B, 0, none⟩ = some (.int .i64 k) ∧ w'.cell? ⟨B, 1, none⟩ = some (.int .i64 v.k) ∧ Below w.heap.size w w' := by
  have HI := hide (fun w hT => inside_good v hg w hT)
  have HJ := hide (is_any v hg k)
  rw [decide_eq_false hk] at HJ
  have HT := hide hT
  clear hg hT hk
  generalize v.ifc = f at *
  obtain ⟨k', b, x, s, i⟩ := v
  unfold VV.agg at *
  dsimp only at *
  go_enter Tryd.func43, Tryd.ntmps43
  go_wp2_with fail
  refine (unhide HI _ (tabs_below (unhide HT) (below2 ..))).mono ?_
  rintro e w1 ⟨rfl, hb⟩
  have hB := (below2 w _ _).trans (hb.mono (by simp; omega))
  obtain ⟨p0, p1, p2, p3, p4, pf, pl⟩ := five_below (five_alloc (five_new w _ _ _ _ _ _ _ rfl) _) hb
  clear hb HI HT
  go_wp2_with fail
  refine (unhide HJ _).mono ?_
  rintro e w2 ⟨rfl, rfl⟩
  go_wp2
  exact ⟨rfl, w2.heap.size, rfl, hB.size, by simp [go_sem], by simp [go_sem], hB.alloc hB.size _⟩
set_option maxRecDepth 100000 in
theorem must_ok (v : VV) (hg : v.good = true) (w : World) (hT : Lib.Utf8Tabs 1 2 w) :
    Calls Tryd.prog 43 #[.int .i64 v.k, v.agg] w fun e w' => e = .returned v.agg ∧ Below w.heap.size w w' := by
  have HI := hide (fun w hT => inside_good v hg w hT)
  have HJ := hide (is_any v hg v.k)
  have HO := hide (fun w => outside_any v hg w)
  rw [decide_eq_true rfl] at HJ
  have HT := hide hT
  clear hg hT
  generalize v.ifc = f at *
  obtain ⟨k', b, x, s, i⟩ := v
  unfold VV.agg at *
  dsimp only at *
  go_enter Tryd.func43, Tryd.ntmps43
  go_wp2_with fail
  refine (unhide HI _ (tabs_below (unhide HT) (below2 ..))).mono ?_
  rintro e w1 ⟨rfl, hb⟩
  have hB := (below2 w _ _).trans (hb.mono (by simp; omega))
  have F := five_below (five_new _ (w.heap.size + 1) _ _ _ _ _ _ (by simp)) hb
  clear hb HI HT
  go_wp2_with fail
  refine (unhide HJ _).mono ?_
  rintro e w2 ⟨rfl, rfl⟩
  go_wp2_with fail
  refine (unhide HO _).mono ?_
  rintro e w3 ⟨rfl, hb⟩
  obtain ⟨r0, r1, r2, r3, r4, rf, rl⟩ := five_below F hb
  clear F HO HJ
  go_wp2
  simp [bodyPost, results, Tryd.results43, go_sem, r0, r1, r2, r3, r4]
  exact set5 (hB.trans (hb.mono hB.size)) (by omega)
end Go.Proofs.YtdlbciiekghkaaaDoor
