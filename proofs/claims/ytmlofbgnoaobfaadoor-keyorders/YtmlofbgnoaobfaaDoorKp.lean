import Derived.Test.YtmlofbgnoaobfaaDoorKo
import Derived.Test.YtmlofbgnoaobfaaDoorVb
namespace Go.Proofs.YtmlofbgnoaobfaaDoor
open Go Go.Proofs Go.RowKit
set_option linter.unusedSimpArgs false
set_option linter.unusedVariables false
theorem run_store_float (P : Program) (w : World) (a : Addr) (m : Mode) (k : FloatKind) (x : Nat) : (store a (.float k x) m).run P w = stored P w a (.float k x) m := run_store P w a _ m rfl
attribute [local go_sem] bits_run run_store_float
set_option maxRecDepth 100000 in
theorem sign16 (n : Int) (w : World) : Calls Tryd.prog 16 #[.int .i64 n] w fun e w' => e = .returned (.int .i64 (if n < 0 then -1 else if 0 < n then 1 else 0)) ∧ w' = w := by
  have h : (if n < 0 then -1 else if 0 < n then 1 else 0) = max (-1) (min 1 n) := by
    split
    · omega
    · split <;> omega
  rw [h]
  go_enter Tryd.func16, Tryd.ntmps16
  go_wp2
  go_ret
  exact ⟨rfl, rfl⟩
/-- The value that a key is. -/
def kVal (s : ByteArray) (n : Int) : VV := if n = 0 then ⟨5, false, 0, s, 0⟩ else ⟨6, false, 0, s, n⟩
theorem kbelow2 (w : World) (o1 o2 : Obj) : Below w.heap.size w ((w.alloc o1).alloc o2) := ((Below.refl _ _).alloc (Nat.le_refl _) _).alloc (by simp) _
set_option maxRecDepth 100000 in
theorem asValue21 (s : ByteArray) (n : Int) (w : World) : Calls Tryd.prog 21 #[keyV s n] w fun e w' => e = .returned (kVal s n).agg ∧ Below w.heap.size w w' := by
  unfold keyV
  by_cases hn : n = 0
  · subst hn
    have e1 : kVal s 0 = ⟨5, false, 0, s, 0⟩ := by unfold kVal; rw [if_pos rfl]
    rw [e1]
    unfold VV.agg
    go_enter Tryd.func21, Tryd.ntmps21
    go_wp2
    simp [bodyPost, results, Tryd.results21, go_sem]
    exact kbelow2 ..
  · have e1 : kVal s n = ⟨6, false, 0, s, n⟩ := by unfold kVal; rw [if_neg hn]
    rw [e1]
    unfold VV.agg
    go_enter Tryd.func21, Tryd.ntmps21
    go_wp2
    simp [bodyPost, results, Tryd.results21, go_sem]
    exact kbelow2 ..
set_option maxRecDepth 100000 in
theorem vcheck20 (v : VV) (w : World) (hT : Lib.Utf8Tabs 2 3 w) : Calls Tryd.prog 20 #[v.agg] w fun e w' => e = .returned (.int .i64 (if v.good then 0 else 5)) ∧ Below w.heap.size w w' := by
  have HI := hide (fun w (hT : Lib.Utf8Tabs 2 3 w) => inside_any v.k v.b v.x v.s v.i w hT)
  have HT := hide hT
  unfold VV.agg VV.good
  generalize goodV v.k v.b v.x v.s v.i = g at *
  clear hT
  go_enter Tryd.func20, Tryd.ntmps20
  go_wp2_with fail
  refine (unhide HI _ (tabs_below (unhide HT) (below_alloc1 _ _))).mono ?_
  rintro e w1 ⟨rfl, hb⟩
  have HB := hide (((below_alloc1 w _).trans (hb.mono (by simp))))
  clear hb
  cases g
  · go_wp2
    go_ret
    exact ⟨rfl, unhide HB⟩
  · go_wp2
    go_ret
    exact ⟨rfl, unhide HB⟩
set_option maxRecDepth 100000 in
theorem check12 (s : ByteArray) (n : Int) (w : World) (hT : Lib.Utf8Tabs 2 3 w) : Calls Tryd.prog 12 #[keyV s n] w fun e w' => e = .returned (.int .i64 (if (kVal s n).good then 0 else 5)) ∧ Below w.heap.size w w' := by
  have HA := hide (fun w => asValue21 s n w)
  have HI := hide (fun w (hT : Lib.Utf8Tabs 2 3 w) => vcheck20 (kVal s n) w hT)
  have HT := hide hT
  unfold keyV at *
  generalize (kVal s n).agg = v at *
  generalize (if (kVal s n).good then (0 : Int) else 5) = g at *
  clear hT
  go_enter Tryd.func12, Tryd.ntmps12
  go_wp2_with fail
  refine (unhide HA _).mono ?_
  rintro e w1 ⟨rfl, hb⟩
  have HB := hide (((below_alloc1 w _).trans (hb.mono (by simp))))
  clear hb
  go_wp2_with fail
  refine (unhide HI _ (tabs_below (unhide HT) (unhide HB))).mono ?_
  rintro e w2 ⟨rfl, hb2⟩
  have HB2 := hide ((unhide HB).trans (hb2.mono (unhide HB).size))
  clear hb2
  go_wp2
  go_ret
  exact ⟨rfl, unhide HB2⟩
end Go.Proofs.YtmlofbgnoaobfaaDoor
