import Derived.Test.YtmlofbgnoaobfaaDoorKr
namespace Go.Proofs.YtmlofbgnoaobfaaDoor
open Go Go.Proofs Go.RowKit
set_option linter.unusedSimpArgs false
set_option linter.unusedVariables false
theorem good_size {s : ByteArray} {n : Int} (h : (kVal s n).good = true) : s.size ≤ 1048576 := by
  unfold kVal at h
  by_cases hn : n = 0
  · rw [if_pos hn] at h
    rcases hf : fitV s with _ | _
    · simp [VV.good, goodV, inG, hf] at h
    · unfold fitV at hf
      simp at hf
      exact hf.1
  · rw [if_neg hn] at h
    have : s.toList.isEmpty = true := by
      cases he : s.toList.isEmpty
      · simp [VV.good, goodV, inG, strV, he] at h
      · rfl
    rw [empty_of this]
    decide
set_option maxHeartbeats 2000000 in
set_option maxRecDepth 100000 in
theorem compare4 (a b : ByteArray) (m n : Int) (w : World) (hT : Lib.Utf8Tabs 2 3 w) : Calls Tryd.prog 4 #[keyV a m, keyV b n] w fun e w' => e = .returned (.tuple #[.int .i64 (if (kVal a m).good && (kVal b n).good then cmpK a m b n else 0), .int .i64 (if (kVal a m).good && (kVal b n).good then 0 else 5)]) ∧ Below w.heap.size w w' := by
  have HA := hide (fun w hT => check12 a m w hT)
  have HB := hide (fun w hT => check12 b n w hT)
  have HC := hide (fun (h1 : (kVal a m).good = true) (h2 : (kVal b n).good = true) w hT => compare13 a b m n (good_size h1) (good_size h2) w hT)
  have HT := hide hT
  clear hT
  unfold keyV at *
  generalize cmpK a m b n = c at *
  generalize (kVal a m).good = ga at *
  generalize (kVal b n).good = gb at *
  have hk := kbelow2 w (Obj.cells #[Value.string a, Value.int IntKind.i64 m] 23) (Obj.cells #[Value.string b, Value.int IntKind.i64 n] 23)
  cases ga
  · go_enter Tryd.func4, Tryd.ntmps4
    go_wp2_with fail
    refine (unhide HA _ (tabs_below (unhide HT) hk)).mono ?_
    rintro e w1 ⟨rfl, hb1⟩
    obtain ⟨hB1, hs1, c0, c1, d0, d1⟩ := two22 hb1
    have HB1 := hide hB1
    clear hb1 hB1 hk
    go_wp2
    go_ret2
    exact ⟨rfl, unhide HB1⟩
  · cases gb
    · go_enter Tryd.func4, Tryd.ntmps4
      go_wp2_with fail
      refine (unhide HA _ (tabs_below (unhide HT) hk)).mono ?_
      rintro e w1 ⟨rfl, hb1⟩
      obtain ⟨hB1, hs1, c0, c1, d0, d1⟩ := two22 hb1
      have HB1 := hide hB1
      clear hb1 hB1 hk
      go_wp2_with fail
      refine (unhide HB _ (tabs_below (unhide HT) (unhide HB1))).mono ?_
      rintro e w2 ⟨rfl, hb2⟩
      have HB2 := hide ((unhide HB1).trans (hb2.mono (unhide HB1).size))
      clear hb2 c0 c1 d0 d1
      go_wp2
      go_ret2
      exact ⟨rfl, unhide HB2⟩
    · go_enter Tryd.func4, Tryd.ntmps4
      go_wp2_with fail
      refine (unhide HA _ (tabs_below (unhide HT) hk)).mono ?_
      rintro e w1 ⟨rfl, hb1⟩
      obtain ⟨hB1, hs1, c0, c1, d0, d1⟩ := two22 hb1
      have HB1 := hide hB1
      clear hb1 hB1 hk
      go_wp2_with fail
      refine (unhide HB _ (tabs_below (unhide HT) (unhide HB1))).mono ?_
      rintro e w2 ⟨rfl, hb2⟩
      have c0' := hb2.cell (p := ⟨w.heap.size, 0, none⟩) (by show w.heap.size < _; omega)
      have c1' := hb2.cell (p := ⟨w.heap.size, 1, none⟩) (by show w.heap.size < _; omega)
      have d0' := hb2.cell (p := ⟨w.heap.size + 1, 0, none⟩) (by show w.heap.size + 1 < _; omega)
      have d1' := hb2.cell (p := ⟨w.heap.size + 1, 1, none⟩) (by show w.heap.size + 1 < _; omega)
      rw [c0] at c0'
      rw [c1] at c1'
      rw [d0] at d0'
      rw [d1] at d1'
      have HB2 := hide ((unhide HB1).trans (hb2.mono (unhide HB1).size))
      clear hb2 c0 c1 d0 d1
      go_wp2_with fail
      refine (unhide HC trivial trivial _ (tabs_below (unhide HT) (unhide HB2))).mono ?_
      rintro e w3 ⟨rfl, hb3⟩
      have HB3 := hide ((unhide HB2).trans (hb3.mono (unhide HB2).size))
      clear hb3 c0' c1' d0' d1'
      go_wp2
      go_ret2
      exact ⟨rfl, unhide HB3⟩
end Go.Proofs.YtmlofbgnoaobfaaDoor
