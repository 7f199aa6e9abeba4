import Derived.Test.YtmfhjbmgbbkicaaDoorHd
namespace Go.Proofs.YtmfhjbmgbbkicaaDoor
open Go Go.Proofs Go.Maps Go.RowKit FM
set_option linter.unusedSimpArgs false
set_option linter.unusedVariables false
set_option maxHeartbeats 1000000
theorem info64 : (Tryd.prog.info? 64).map (fun i => (i.zero, i.size, i.bytes)) = (Tryd.prog.info? 64).map (fun i => (i.zero, 20, 192)) := by kernel_rfl
theorem mk36 (w : World) : ∃ wm, (Instr.makeSlice 36 (.int .i64 0) (.int .i64 0)).run Tryd.prog w = .ok (.slice (some ⟨w.heap.size, 0, none⟩) 0 0) wm ∧ Below w.heap.size w wm := by
  refine ⟨w.alloc (Obj.cells #[] 64), by kernel_rfl, ?_⟩
  exact (Below.refl _ _).alloc (Nat.le_refl _) _
set_option maxRecDepth 100000 in
theorem props25 (t m : Nat) (w : World) (H : TB w t m) : Calls Tryd.prog 25 #[.pointer (some ⟨t, 0, none⟩)] w fun e w' => ∃ A c, e = .returned (.slice A 0 c) ∧ Below w.heap.size w w' := by
  refine (callsIn_wide (n := 4)).1 ?_
  have HL := hide (len30 t m w H)
  have HE := hide (fun X => each31 t X)
  have HT := hide H
  clear H
  refine callsIn_of_wp_marks Tryd.func25 rfl trivial ?_ rfl
  simp only [Tryd.ntmps25, List.size_toArray, List.length_cons, List.length_nil, Nat.reduceAdd, Nat.reduceSub, Array.replicate_succ, Array.replicate_zero, List.push_toArray, List.append_toArray, List.nil_append, List.cons_append]
  gi_wp2_with fail
  refine ⟨trivial, (callsIn_wide.2 (unhide HL)).mono ?_⟩
  rintro e w1 ⟨rfl, rfl⟩
  obtain ⟨wm, hrun, hbm⟩ := mk36 w1
  gi_wp2_with fail
  refine ⟨trivial, (callsIn_wide.2 ((unhide HE) _)).mono ?_⟩
  rintro e w2 ⟨rfl, rfl⟩
  have hms := hbm.size
  have b3 : Boxed (wm.alloc (.cells #[.slice (some ⟨w1.heap.size, 0, none⟩) 0 0] 36)) wm.heap.size 36 (.slice (some ⟨w1.heap.size, 0, none⟩) 0 0) := Boxed.new wm 36 _
  have bn : Boxed ((wm.alloc (.cells #[.slice (some ⟨w1.heap.size, 0, none⟩) 0 0] 36)).alloc (.cells #[.pointer (some ⟨t, 0, none⟩)] 76)) (wm.heap.size + 1) 76 (.pointer (some ⟨t, 0, none⟩)) := by
    have := Boxed.new (wm.alloc (.cells #[.slice (some ⟨w1.heap.size, 0, none⟩) 0 0] 36)) 76 (.pointer (some ⟨t, 0, none⟩))
    rwa [World.size_alloc] at this
  have hB0 : Below w1.heap.size w1 ((wm.alloc (.cells #[.slice (some ⟨w1.heap.size, 0, none⟩) 0 0] 36)).alloc (.cells #[.pointer (some ⟨t, 0, none⟩)] 76)) := (hbm.alloc hms _).alloc (by simp; omega) _
  have hT3 := (unhide HT).fr (Fr.of_below hB0 [])
  clear HL HE
  gi_wp2
  try simp only [World.size_alloc]
  refine wpIn_rangeFunc_ownH (α := Empty) rfl (by omega) (gf := 33) (lb := #[.pointer (some ⟨wm.heap.size + 1, 0, none⟩)]) rfl trivial (enters_of Tryd.func33 (by kernel_rfl) rfl)
    (each_stops 3 (by omega) (wm.heap.size + 1) t m _ hT3 (by simp) bn.cell) (fun _ _ => trivial) (fun _ _ _ _ _ _ _ _ => trivial) (Below.refl _ _) (fun x => x.elim)
    (fun _ W => Boxed W wm.heap.size 36 (.slice (some ⟨w1.heap.size, 0, none⟩) 0 0) ∧ Below w1.heap.size w1 W)
    (fun _ _ _ => False)
    (OwnFrom.and (Own.from (boxed_own _ _ _) _) (ownFrom_below (Nat.le_refl _) (by simp; omega)))
    (fun _ _ _ _ _ hs _ _ => hs)
    ⟨b3.alloc _, hB0⟩
    (fun x _ _ => x.elim)
    (fun x => x.elim)
    (fun _ _ x => x.elim) (fun _ _ x => x.elim) ?done ?stop
  case done =>
    rintro D ys W hD rfl ⟨hv, hB⟩ hK
    have hc := hv.cell
    gi_wp2
    refine ⟨by simp, .inl ⟨_, _, rfl, run_takeDeferred hK, ?_⟩⟩
    exact ⟨_, results_tmp rfl _ _ _, _, _, rfl, hB.trans (belowK_b (w := w1) (Nat.le_refl _) W D _ _ (by simp at hD; omega) hK rfl rfl)⟩
  case stop =>
    rintro D c pre W _ _ h _
    exact h.elim
end Go.Proofs.YtmfhjbmgbbkicaaDoor
