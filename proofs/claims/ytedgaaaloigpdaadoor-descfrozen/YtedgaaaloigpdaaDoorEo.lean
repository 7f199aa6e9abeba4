import Derived.Test.YtedgaaaloigpdaaDoorEy
namespace Go.Proofs.YtedgaaaloigpdaaDoor
open Go Go.Proofs Go.RowKit FM
set_option linter.unusedSimpArgs false
set_option linter.unusedVariables false
theorem Kp.putp {w X : World} {l : List (Nat × PB)} (h : Kp w X l) (i : Nat) {b : Nat} {p q : PB} {vs : List Value} (hi : l[i]? = some (b, q)) (hp : q.lies X b → p.lies (X.setCells b 0 vs) b) : Kp w (X.setCells b 0 vs) (l.set i (b, p)) := by
  have hb := h.all _ (List.mem_of_getElem? hi)
  have hlt := (List.getElem?_eq_some_iff.1 hi).1
  refine ⟨below_setCells (W := X) hb.1 _ _ _ h.below, fun q hq => ?_, ?_⟩
  · rw [size_setCells]
    obtain ⟨j, hj, rfl⟩ := List.mem_iff_getElem.1 hq
    by_cases hij : i = j
    · subst hij
      rw [List.getElem_set_self]
      exact ⟨hb.1, hb.2.1, hp hb.2.2⟩
    · rw [List.getElem_set_ne hij]
      have hj' : j < l.length := by simpa using hj
      have ha := h.all _ (List.getElem_mem hj')
      refine ⟨ha.1, ha.2.1, PB.far ha.2.2 ?_⟩
      intro e
      have hn := List.pairwise_iff_getElem.1 h.nd
      have hie : l[i].1 = b := by
        have := (List.getElem?_eq_some_iff.1 hi).2
        rw [this]
      rcases Nat.lt_or_gt_of_ne hij with hlt2 | hlt2
      · exact hn i j (by simpa using hlt) (by simpa using hj') hlt2 (by simp [hie, e])
      · exact hn j i (by simpa using hj') (by simpa using hlt) hlt2 (by simp [hie, e])
  · rw [List.map_set]
    have : (l.map (·.1)).set i b = l.map (·.1) := by
      refine List.ext_getElem? fun j => ?_
      by_cases hij : i = j
      · subst hij
        have := (List.getElem?_eq_some_iff.1 hi).2
        simp [hlt, this]
      · rw [List.getElem?_set_ne hij]
    rw [this]
    exact h.nd
theorem Kp.nil (w : World) : Kp w w [] := ⟨Below.refl _ _, (fun q hq => by cases hq), by simp⟩
theorem kstore24 {ops : Array Oper} {rest : List Oper} {o : Oper} {a : Act} {w w0 : World} {Q : Exit → Act → World → Prop} {l : List (Nat × PB)} {x y : Operand} (i : Nat) {b : Nat} {d u : VV} (hw : Region.wanted o (yielded ops a.tmps) = true) (ho : o.op = .store 24 x y) (hL : Kp w0 w l)
    (hx : a.eval x = .pointer (some ⟨b, 0, none⟩)) (hy : a.eval y = u.agg) (hi : l[i]? = some (b, .V d)) (h : ∀ X, Kp w0 X (l.set i (b, .V u)) → wpList Tryd.prog ops Q rest (a.put o.dst undef) X) : wpList Tryd.prog ops Q (o :: rest) a w := by
  refine BigFrame.wpList_want hw fun K hK => ?_
  exact wp_store_mid 24 x y ho _ 0 u.cs.toArray hx hy (VLies.there (hL.get i hi)) info24' (by simp [VV.cs, Value.oneCell']) (hK _ _ (h _ (hL.putp i hi fun hq => VLies.setV hq)))
theorem kalloc24 {ops : Array Oper} {rest : List Oper} {o : Oper} {a : Act} {w w0 : World} {Q : Exit → Act → World → Prop} {l : List (Nat × PB)} (hw : Region.wanted o (yielded ops a.tmps) = true) (ho : o.op = .alloc 24) (hL : Kp w0 w l)
    (h : ∀ X, Kp w0 X (l ++ [(w.heap.size, .V zeroV)]) → wpList Tryd.prog ops Q rest (a.put o.dst (.pointer (some ⟨w.heap.size, 0, none⟩))) X) : wpList Tryd.prog ops Q (o :: rest) a w := by
  refine BigFrame.wpList_want hw fun K hK => ?_
  have hP := hK _ _ (h _ (hL.new (.V zeroV)))
  unfold Oper.wp execOp
  simp only [ho]
  simp [go_sem, Tryd.zeroValue24]
  exact hP
theorem load3v {ops : Array Oper} {rest : List Oper} {o : Oper} {a : Act} {w : World} {Q : Exit → Act → World → Prop} {x : Operand} {b : Nat} {d : DD} (hw : Region.wanted o (yielded ops a.tmps) = true) (ho : o.op = .load 3 x)
    (hx : a.eval x = .pointer (some ⟨b, 0, none⟩)) (hc : Lies w b d) (h : wpList Tryd.prog ops Q rest (a.put o.dst (.int .i64 d.v.k)) w) : wpList Tryd.prog ops Q (o :: rest) a w := by
  obtain ⟨-, h0, h1, h2, h3, h4, h5, h6, h7, h8, h9, h10, h11, h12, h13, h14, h15, h16, h17⟩ := hc
  refine BigFrame.wpList_want hw fun K hK => ?_
  unfold Oper.wp execOp
  simp only [ho, hx]
  simp [go_sem, h0, Tryd.isAgg3]
  exact hK _ _ h
theorem load3g {ops : Array Oper} {rest : List Oper} {o : Oper} {a : Act} {w : World} {Q : Exit → Act → World → Prop} {x : Operand} {b : Nat} {d : DD} (hw : Region.wanted o (yielded ops a.tmps) = true) (ho : o.op = .load 3 x)
    (hx : a.eval x = .pointer (some ⟨b, 5, none⟩)) (hc : Lies w b d) (h : wpList Tryd.prog ops Q rest (a.put o.dst (.int .i64 d.g.k)) w) : wpList Tryd.prog ops Q (o :: rest) a w := by
  obtain ⟨-, h0, h1, h2, h3, h4, h5, h6, h7, h8, h9, h10, h11, h12, h13, h14, h15, h16, h17⟩ := hc
  refine BigFrame.wpList_want hw fun K hK => ?_
  unfold Oper.wp execOp
  simp only [ho, hx]
  simp [go_sem, h5, Tryd.isAgg3]
  exact hK _ _ h
theorem load3s {ops : Array Oper} {rest : List Oper} {o : Oper} {a : Act} {w : World} {Q : Exit → Act → World → Prop} {x : Operand} {b : Nat} {d : DD} (hw : Region.wanted o (yielded ops a.tmps) = true) (ho : o.op = .load 3 x)
    (hx : a.eval x = .pointer (some ⟨b, 10, none⟩)) (hc : Lies w b d) (h : wpList Tryd.prog ops Q rest (a.put o.dst (.int .i64 d.s.k)) w) : wpList Tryd.prog ops Q (o :: rest) a w := by
  obtain ⟨-, h0, h1, h2, h3, h4, h5, h6, h7, h8, h9, h10, h11, h12, h13, h14, h15, h16, h17⟩ := hc
  refine BigFrame.wpList_want hw fun K hK => ?_
  unfold Oper.wp execOp
  simp only [ho, hx]
  simp [go_sem, h10, Tryd.isAgg3]
  exact hK _ _ h

def oneV : VV := ⟨4, false, 4607182418800017408, ByteArray.empty, 0⟩
def twoV : VV := ⟨4, false, 4611686018427387904, ByteArray.empty, 0⟩
def fixedD : DD := ⟨oneV, zeroV, zeroV, 1, 1, 1⟩
def ask1D : DD := ⟨oneV, zeroV, zeroV, 0, 0, 0⟩
def ask2D : DD := ⟨twoV, zeroV, zeroV, 0, 0, 0⟩
def freeD : DD := ⟨oneV, zeroV, zeroV, 2, 2, 2⟩
def askgD : DD := ⟨zeroV, undV, zeroV, 0, 0, 0⟩
theorem ex1 : appB true fixedD ask1D = true ∧ appE fixedD ask1D = 0 := ⟨by kernel_rfl, by kernel_rfl⟩
theorem ex2 : appB true fixedD ask2D = false ∧ appE fixedD ask2D = 0 := ⟨by kernel_rfl, by kernel_rfl⟩
theorem ex3 : appB true freeD askgD = true ∧ appE freeD askgD = 0 ∧ (appD true freeD askgD).s.k = 1 ∧ (appD true freeD askgD).e = 2 ∧ (appD true freeD askgD).v.k = 0 := ⟨by kernel_rfl, by kernel_rfl, by kernel_rfl, by kernel_rfl, by kernel_rfl⟩
theorem fdx : FD fixedD ∧ FD ask1D ∧ FD ask2D ∧ FD freeD ∧ FD askgD := by unfold FD; decide
set_option maxHeartbeats 8000000 in
set_option maxRecDepth 100000 in
theorem awake_any (w : World) (hT : Lib.Utf8Tabs 1 2 w) : Calls Tryd.prog 29 #[] w fun e w' => e = .returned (.bool true) ∧ Below w.heap.size w w' := by
  have HA1 := hide (fun w hT => apply_any true fixedD ask1D fdx.1 fdx.2.1 w hT)
  have HA2 := hide (fun w hT => apply_any true fixedD ask2D fdx.1 fdx.2.2.1 w hT)
  have HA3 := hide (fun w hT => apply_any true freeD askgD fdx.2.2.2.1 fdx.2.2.2.2 w hT)
  have HT := hide hT
  clear hT
  rw [ex1.1, ex1.2] at HA1
  rw [ex2.1, ex2.2] at HA2
  rw [ex3.1, ex3.2.1] at HA3
  obtain ⟨-, -, k1, k2, k3⟩ := ex3
  generalize appD true fixedD ask1D = A1 at *
  generalize appD true fixedD ask2D = A2 at *
  generalize appD true freeD askgD = A3 at *
  have LL := hide (Kp.nil w)
  go_enter Tryd.func29, Tryd.ntmps29
  go_wp2_with (first | go_skip | ((with_reducible apply load24); (case ho => rfl); (case hw => rfl); (case hx => rfl); (case hc => first | exact (unhide LL).get 0 rfl); simp only [Act.put, List.setIfInBounds_toArray, List.set_cons_succ, List.set_cons_zero, VV.agg, oneV]) | ((with_reducible apply load27); (case ho => rfl); (case hw => rfl); (case hx => rfl); (case hc => first | exact (unhide LL).get 0 rfl | exact (unhide LL).get 1 rfl); simp only [Act.put, List.setIfInBounds_toArray, List.set_cons_succ, List.set_cons_zero]) | ((with_reducible apply kalloc24); (case ho => rfl); (case hw => rfl); (case hL => exact unhide LL); (intro X LX; simp only [Act.put, List.setIfInBounds_toArray, List.set_cons_succ, List.set_cons_zero]; simp only [List.cons_append, List.nil_append] at LX; replace LL := hide LX; clear LX)) | ((with_reducible apply kstore24 (u := oneV) 0); (case ho => rfl); (case hw => rfl); (case hL => exact unhide LL); (case hx => rfl); (case hy => rfl); (case hi => rfl); (intro X LX; simp only [Act.put, List.setIfInBounds_toArray, List.set_cons_succ, List.set_cons_zero]; simp only [List.set_cons_succ, List.set_cons_zero] at LX; replace LL := hide LX; clear LX)) | ((with_reducible apply kalloc27); (case ho => rfl); (case hw => rfl); (case hL => exact unhide LL); (intro X LX; simp only [Act.put, List.setIfInBounds_toArray, List.set_cons_succ, List.set_cons_zero]; simp only [List.cons_append, List.nil_append] at LX; replace LL := hide LX; clear LX)) | ((with_reducible apply kstore27 (u := fixedD) 1); (case ho => rfl); (case hw => rfl); (case hL => exact unhide LL); (case hx => rfl); (case hy => rfl); (case hi => rfl); (intro X LX; simp only [Act.put, List.setIfInBounds_toArray, List.set_cons_succ, List.set_cons_zero]; simp only [List.set_cons_succ, List.set_cons_zero] at LX; replace LL := hide LX; clear LX)))
  refine (unhide HA1 _ (tabs_below (unhide HT) (unhide LL).below)).mono ?_
  rintro _ w1 ⟨rfl, hb⟩
  replace LL := hide ((unhide LL).on hb)
  clear hb
  go_wp2_with (first | go_skip | ((with_reducible apply load24); (case ho => rfl); (case hw => rfl); (case hx => rfl); (case hc => first | exact (unhide LL).get 0 rfl); simp only [Act.put, List.setIfInBounds_toArray, List.set_cons_succ, List.set_cons_zero, VV.agg, oneV]) | ((with_reducible apply load27); (case ho => rfl); (case hw => rfl); (case hx => rfl); (case hc => first | exact (unhide LL).get 0 rfl | exact (unhide LL).get 1 rfl); simp only [Act.put, List.setIfInBounds_toArray, List.set_cons_succ, List.set_cons_zero]) | ((with_reducible apply kalloc27); (case ho => rfl); (case hw => rfl); (case hL => exact unhide LL); (intro X LX; simp only [Act.put, List.setIfInBounds_toArray, List.set_cons_succ, List.set_cons_zero]; simp only [List.cons_append, List.nil_append] at LX; replace LL := hide LX; clear LX)) | ((with_reducible apply kstore27 (u := A1) 2); (case ho => rfl); (case hw => rfl); (case hL => exact unhide LL); (case hx => rfl); (case hy => rfl); (case hi => rfl); (intro X LX; simp only [Act.put, List.setIfInBounds_toArray, List.set_cons_succ, List.set_cons_zero]; simp only [List.set_cons_succ, List.set_cons_zero] at LX; replace LL := hide LX; clear LX)))
  refine (unhide HA2 _ (tabs_below (unhide HT) (unhide LL).below)).mono ?_
  rintro _ w2 ⟨rfl, hb⟩
  replace LL := hide ((unhide LL).on hb)
  clear hb
  go_wp2_with (first | go_skip | ((with_reducible apply load24); (case ho => rfl); (case hw => rfl); (case hx => rfl); (case hc => first | exact (unhide LL).get 0 rfl); simp only [Act.put, List.setIfInBounds_toArray, List.set_cons_succ, List.set_cons_zero, VV.agg, oneV]) | ((with_reducible apply load27); (case ho => rfl); (case hw => rfl); (case hx => rfl); (case hc => first | exact (unhide LL).get 0 rfl | exact (unhide LL).get 1 rfl); simp only [Act.put, List.setIfInBounds_toArray, List.set_cons_succ, List.set_cons_zero]) | ((with_reducible apply kalloc27); (case ho => rfl); (case hw => rfl); (case hL => exact unhide LL); (intro X LX; simp only [Act.put, List.setIfInBounds_toArray, List.set_cons_succ, List.set_cons_zero]; simp only [List.cons_append, List.nil_append] at LX; replace LL := hide LX; clear LX)) | ((with_reducible apply kstore27 (u := A2) 3); (case ho => rfl); (case hw => rfl); (case hL => exact unhide LL); (case hx => rfl); (case hy => rfl); (case hi => rfl); (intro X LX; simp only [Act.put, List.setIfInBounds_toArray, List.set_cons_succ, List.set_cons_zero]; simp only [List.set_cons_succ, List.set_cons_zero] at LX; replace LL := hide LX; clear LX)))
  refine (unhide HA3 _ (tabs_below (unhide HT) (unhide LL).below)).mono ?_
  rintro _ w3 ⟨rfl, hb⟩
  replace LL := hide ((unhide LL).on hb)
  clear hb
  go_wp2_with (first | go_skip | ((with_reducible apply load24); (case ho => rfl); (case hw => rfl); (case hx => rfl); (case hc => first | exact (unhide LL).get 0 rfl); simp only [Act.put, List.setIfInBounds_toArray, List.set_cons_succ, List.set_cons_zero, VV.agg, oneV]) | ((with_reducible apply load27); (case ho => rfl); (case hw => rfl); (case hx => rfl); (case hc => first | exact (unhide LL).get 0 rfl | exact (unhide LL).get 1 rfl); simp only [Act.put, List.setIfInBounds_toArray, List.set_cons_succ, List.set_cons_zero]) | ((with_reducible apply kalloc27); (case ho => rfl); (case hw => rfl); (case hL => exact unhide LL); (intro X LX; simp only [Act.put, List.setIfInBounds_toArray, List.set_cons_succ, List.set_cons_zero]; simp only [List.cons_append, List.nil_append] at LX; replace LL := hide LX; clear LX)) | ((with_reducible apply kstore27 (u := A3) 4); (case ho => rfl); (case hw => rfl); (case hL => exact unhide LL); (case hx => rfl); (case hy => rfl); (case hi => rfl); (intro X LX; simp only [Act.put, List.setIfInBounds_toArray, List.set_cons_succ, List.set_cons_zero]; simp only [List.set_cons_succ, List.set_cons_zero] at LX; replace LL := hide LX; clear LX)) | ((with_reducible apply load3v); (case ho => rfl); (case hw => rfl); (case hx => rfl); (case hc => first | exact (unhide LL).get 0 rfl | exact (unhide LL).get 1 rfl | exact (unhide LL).get 2 rfl | exact (unhide LL).get 3 rfl | exact (unhide LL).get 4 rfl); simp only [Act.put, List.setIfInBounds_toArray, List.set_cons_succ, List.set_cons_zero]) | ((with_reducible apply load3s); (case ho => rfl); (case hw => rfl); (case hx => rfl); (case hc => first | exact (unhide LL).get 0 rfl | exact (unhide LL).get 1 rfl | exact (unhide LL).get 2 rfl | exact (unhide LL).get 3 rfl | exact (unhide LL).get 4 rfl); simp only [Act.put, List.setIfInBounds_toArray, List.set_cons_succ, List.set_cons_zero]) | ((with_reducible apply load25e); (case ho => rfl); (case hw => rfl); (case hx => rfl); (case hc => first | exact (unhide LL).get 0 rfl | exact (unhide LL).get 1 rfl | exact (unhide LL).get 2 rfl | exact (unhide LL).get 3 rfl | exact (unhide LL).get 4 rfl); simp only [Act.put, List.setIfInBounds_toArray, List.set_cons_succ, List.set_cons_zero]))
  go_ret
  exact ⟨rfl, (unhide LL).below⟩

set_option maxHeartbeats 2000000 in
set_option maxRecDepth 100000 in
theorem takes_err (x : Bool) (n d : DD) (hn : FD n) (hd : FD d) (hE : ¬ appE n d = 0) (w : World) (hT : Lib.Utf8Tabs 1 2 w) : Calls Tryd.prog 5 #[.bool x, n.agg, d.agg] w fun e w' => e = .returned (.bool true) ∧ Below w.heap.size w w' := by
  obtain ⟨k1, k2, k3⟩ := app_err (x := x) hE
  have HA := hide (fun w hT => apply_any x n d hn hd w hT)
  rw [k1, k2, k3] at HA
  have HE := hide (eqD_any zeroD zeroD)
  rw [eqD_self] at HE
  have HAw := hide awake_any
  clear hn hd k1 k2 k3 hE
  have HT := hide hT
  clear hT
  have LL := hide (Kp.of2 (Lie.new2 w (.D n) (.D d)))
  have hq0 : n.agg = .agg #[.int .i64 n.v.k, .bool n.v.b, .float .f64 n.v.x, .string n.v.s, .int .i64 n.v.i, .int .i64 n.g.k, .bool n.g.b, .float .f64 n.g.x, .string n.g.s, .int .i64 n.g.i, .int .i64 n.s.k, .bool n.s.b, .float .f64 n.s.x, .string n.s.s, .int .i64 n.s.i, .int .i64 n.w, .int .i64 n.e, .int .i64 n.c] := rfl
  have hq1 : d.agg = .agg #[.int .i64 d.v.k, .bool d.v.b, .float .f64 d.v.x, .string d.v.s, .int .i64 d.v.i, .int .i64 d.g.k, .bool d.g.b, .float .f64 d.g.x, .string d.g.s, .int .i64 d.g.i, .int .i64 d.s.k, .bool d.s.b, .float .f64 d.s.x, .string d.s.s, .int .i64 d.s.i, .int .i64 d.w, .int .i64 d.e, .int .i64 d.c] := rfl
  rw [hq0, hq1]
  clear hq0 hq1
  go_enter Tryd.func5, Tryd.ntmps5
  go_wp2_with (first | go_skip | ((with_reducible apply load27); (case ho => rfl); (case hw => rfl); (case hx => rfl); (case hc => first | exact (unhide LL).get 0 rfl | exact (unhide LL).get 1 rfl | exact (unhide LL).get 2 rfl | exact (unhide LL).get 3 rfl); simp only [Act.put, List.setIfInBounds_toArray, List.set_cons_succ, List.set_cons_zero]))
  refine (unhide HAw _ (tabs_below (unhide HT) (unhide LL).below)).mono ?_
  rintro _ w1 ⟨rfl, hb⟩
  replace LL := hide ((unhide LL).on hb)
  clear hb
  go_wp2_with (first | go_skip | ((with_reducible apply load27); (case ho => rfl); (case hw => rfl); (case hx => rfl); (case hc => first | exact (unhide LL).get 0 rfl | exact (unhide LL).get 1 rfl | exact (unhide LL).get 2 rfl | exact (unhide LL).get 3 rfl); simp only [Act.put, List.setIfInBounds_toArray, List.set_cons_succ, List.set_cons_zero]))
  refine (unhide HA _ (tabs_below (unhide HT) (unhide LL).below)).mono ?_
  rintro _ w2 ⟨rfl, hb⟩
  replace LL := hide ((unhide LL).on hb)
  clear hb
  go_wp2_with (first | go_skip | ((with_reducible apply load27); (case ho => rfl); (case hw => rfl); (case hx => rfl); (case hc => first | exact (unhide LL).get 0 rfl | exact (unhide LL).get 1 rfl | exact (unhide LL).get 2 rfl | exact (unhide LL).get 3 rfl); simp only [Act.put, List.setIfInBounds_toArray, List.set_cons_succ, List.set_cons_zero]) | ((with_reducible apply kalloc27); (case ho => rfl); (case hw => rfl); (case hL => exact unhide LL); (intro X LX; simp only [Act.put, List.setIfInBounds_toArray, List.set_cons_succ, List.set_cons_zero]; simp only [List.cons_append, List.nil_append] at LX; replace LL := hide LX; clear LX)) | ((with_reducible apply kstore27 (u := zeroD) 2); (case ho => rfl); (case hw => rfl); (case hL => exact unhide LL); (case hx => rfl); (case hy => rfl); (case hi => rfl); (intro X LX; simp only [Act.put, List.setIfInBounds_toArray, List.set_cons_succ, List.set_cons_zero]; simp only [List.set_cons_succ, List.set_cons_zero] at LX; replace LL := hide LX; clear LX)))
  refine (unhide HE _).mono ?_
  rintro _ w3 ⟨rfl, hb⟩
  replace LL := hide ((unhide LL).on hb)
  clear hb
  go_wp2_with (first | go_skip | ((with_reducible apply load27); (case ho => rfl); (case hw => rfl); (case hx => rfl); (case hc => first | exact (unhide LL).get 0 rfl | exact (unhide LL).get 1 rfl | exact (unhide LL).get 2 rfl | exact (unhide LL).get 3 rfl); simp only [Act.put, List.setIfInBounds_toArray, List.set_cons_succ, List.set_cons_zero]))
  go_ret
  exact ⟨rfl, (unhide LL).below⟩
set_option maxHeartbeats 2000000 in
set_option maxRecDepth 100000 in
theorem takes_not (x : Bool) (n d : DD) (hn : FD n) (hd : FD d) (hE : appE n d = 0) (hB : appB x n d = false) (w : World) (hT : Lib.Utf8Tabs 1 2 w) : Calls Tryd.prog 5 #[.bool x, n.agg, d.agg] w fun e w' => e = .returned (.bool true) ∧ Below w.heap.size w w' := by
  have k3 := app_not hE hB
  have HA := hide (fun w hT => apply_any x n d hn hd w hT)
  rw [hE, hB, k3] at HA
  have HE := hide (eqD_any n n)
  rw [eqD_self] at HE
  have HAw := hide awake_any
  clear hn hd k3 hE hB
  have HT := hide hT
  clear hT
  have LL := hide (Kp.of2 (Lie.new2 w (.D n) (.D d)))
  have hq0 : n.agg = .agg #[.int .i64 n.v.k, .bool n.v.b, .float .f64 n.v.x, .string n.v.s, .int .i64 n.v.i, .int .i64 n.g.k, .bool n.g.b, .float .f64 n.g.x, .string n.g.s, .int .i64 n.g.i, .int .i64 n.s.k, .bool n.s.b, .float .f64 n.s.x, .string n.s.s, .int .i64 n.s.i, .int .i64 n.w, .int .i64 n.e, .int .i64 n.c] := rfl
  have hq1 : d.agg = .agg #[.int .i64 d.v.k, .bool d.v.b, .float .f64 d.v.x, .string d.v.s, .int .i64 d.v.i, .int .i64 d.g.k, .bool d.g.b, .float .f64 d.g.x, .string d.g.s, .int .i64 d.g.i, .int .i64 d.s.k, .bool d.s.b, .float .f64 d.s.x, .string d.s.s, .int .i64 d.s.i, .int .i64 d.w, .int .i64 d.e, .int .i64 d.c] := rfl
  rw [hq0, hq1]
  clear hq0 hq1
  go_enter Tryd.func5, Tryd.ntmps5
  go_wp2_with (first | go_skip | ((with_reducible apply load27); (case ho => rfl); (case hw => rfl); (case hx => rfl); (case hc => first | exact (unhide LL).get 0 rfl | exact (unhide LL).get 1 rfl | exact (unhide LL).get 2 rfl | exact (unhide LL).get 3 rfl); simp only [Act.put, List.setIfInBounds_toArray, List.set_cons_succ, List.set_cons_zero]))
  refine (unhide HAw _ (tabs_below (unhide HT) (unhide LL).below)).mono ?_
  rintro _ w1 ⟨rfl, hb⟩
  replace LL := hide ((unhide LL).on hb)
  clear hb
  go_wp2_with (first | go_skip | ((with_reducible apply load27); (case ho => rfl); (case hw => rfl); (case hx => rfl); (case hc => first | exact (unhide LL).get 0 rfl | exact (unhide LL).get 1 rfl | exact (unhide LL).get 2 rfl | exact (unhide LL).get 3 rfl); simp only [Act.put, List.setIfInBounds_toArray, List.set_cons_succ, List.set_cons_zero]))
  refine (unhide HA _ (tabs_below (unhide HT) (unhide LL).below)).mono ?_
  rintro _ w2 ⟨rfl, hb⟩
  replace LL := hide ((unhide LL).on hb)
  clear hb
  go_wp2_with (first | go_skip | ((with_reducible apply load27); (case ho => rfl); (case hw => rfl); (case hx => rfl); (case hc => first | exact (unhide LL).get 0 rfl | exact (unhide LL).get 1 rfl | exact (unhide LL).get 2 rfl | exact (unhide LL).get 3 rfl); simp only [Act.put, List.setIfInBounds_toArray, List.set_cons_succ, List.set_cons_zero]) | ((with_reducible apply kalloc27); (case ho => rfl); (case hw => rfl); (case hL => exact unhide LL); (intro X LX; simp only [Act.put, List.setIfInBounds_toArray, List.set_cons_succ, List.set_cons_zero]; simp only [List.cons_append, List.nil_append] at LX; replace LL := hide LX; clear LX)) | ((with_reducible apply kstore27 (u := n) 2); (case ho => rfl); (case hw => rfl); (case hL => exact unhide LL); (case hx => rfl); (case hy => rfl); (case hi => rfl); (intro X LX; simp only [Act.put, List.setIfInBounds_toArray, List.set_cons_succ, List.set_cons_zero]; simp only [List.set_cons_succ, List.set_cons_zero] at LX; replace LL := hide LX; clear LX)))
  refine (unhide HE _).mono ?_
  rintro _ w3 ⟨rfl, hb⟩
  replace LL := hide ((unhide LL).on hb)
  clear hb
  go_wp2_with (first | go_skip | ((with_reducible apply load27); (case ho => rfl); (case hw => rfl); (case hx => rfl); (case hc => first | exact (unhide LL).get 0 rfl | exact (unhide LL).get 1 rfl | exact (unhide LL).get 2 rfl | exact (unhide LL).get 3 rfl); simp only [Act.put, List.setIfInBounds_toArray, List.set_cons_succ, List.set_cons_zero]))
  go_ret
  exact ⟨rfl, (unhide LL).below⟩
end Go.Proofs.YtedgaaaloigpdaaDoor
