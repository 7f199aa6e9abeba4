import Derived.Test.YtcflglloopgieaaDoorQt
import Derived.Test.YtcflglloopgieaaDoorQf
import Derived.Test.YtcflglloopgieaaDoorQc
import Derived.Test.YtcflglloopgieaaDoorQp
import Derived.Deep.Slices
import Derived.SizedLaws

/-! Jc -/
namespace Go.Proofs.YtcflglloopgieaaDoor
open Go Go.Proofs Go.Maps Go.RowKit FM
set_option linter.unusedSimpArgs false
set_option linter.unusedVariables false
set_option maxHeartbeats 1000000
theorem appRW {ops : Array Oper} {rest : List Oper} {Q : Exit → Act → World → Prop} {w w0 : World} {a : Act} {o : Oper} {ov pv : Value} {xs ds : List DL} {s x : Operand} {b2 : Nat} (hgd : o.guard = none) (ho : o.op = .call { callee := .builtin .append, args := #[s, x], argTypes := #[25, 25] }) (hs : a.eval s = ov) (hx : a.eval x = pv) (hR : RW w0 w ov xs) (hP : w.ownsRow b2 43 29 pv ds.length (flatL ds)) (hn : xs.length + ds.length ≤ 1000000)
    (h : ∀ ov' X, RW w0 X ov' (xs ++ ds) → Fr w X ov.ownBlock.toList → (ov'.ownBlock = ov.ownBlock ∨ ∃ g, ov'.ownBlock = some g ∧ w.heap.size ≤ g) → wpList Tryd.prog ops Q rest (a.put o.dst ov') X) : wpList Tryd.prog ops Q (o :: rest) a w := by
  obtain ⟨i0, hi, hz0, hz1, hz2⟩ := info_parts infL
  rcases hP.2 with ⟨h1, h2⟩ | ⟨g, cap, cur, h1, h2, h3, h4, h5, h6, h7⟩
  · have hd : ds = [] := List.length_eq_zero_iff.1 h2
    subst hd
    subst h1
    have hrun := run_append_owned_none (P := Tryd.prog) (w := w) w0.heap.size 25 o.type 43 i0 29 Tryd.underlying25 hi ov xs.length (flatL xs) hR.1
    refine wpList_plain hgd fun K hK => ?_
    have hP2 := hK _ _ (h ov w (by rw [List.append_nil]; exact hR) (Fr.refl _ _) (.inl rfl))
    unfold Oper.wp
    simp [execOp, ho, resolve, invoke, builtin, hs, hx, hrun, Result.andThen]
    exact hP2
  · subst h1
    have hnews : ∀ j u, (flatL ds)[j]? = some u → w.cell? ((⟨g, 0, none⟩ : Addr).add j) = some u := fun j u hu => by
      rw [← h7, List.getElem?_take] at hu
      split at hu
      · rw [Addr.add_mid]
        have hc : cur[j]? = some u := by rw [← Array.getElem?_toList]; exact hu
        simp [World.cell?, h3, hc]
      · cases hu
    obtain ⟨v', X, hrun, r2, r3, r4⟩ := append_fresh w w0.heap.size 25 o.type 43 i0 _ 29 272 Tryd.underlying25 hi hz0 hz1 hz2 rfl (by omega) ov xs.length (flatL xs) hR.1 ⟨g, 0, none⟩ ds.length cap (flatL ds) (own_len hP) hnews (flatL_one ds) (by unfold maxLen; omega) (by omega) hR.2.size
    refine wpList_plain hgd fun K hK => ?_
    have hP2 := hK _ _ (h v' X (hR.grow r3 r2) (Fr.grown r3) (r4.elim .inl (fun e => .inr ⟨_, e, Nat.le_refl _⟩)))
    unfold Oper.wp
    simp [execOp, ho, resolve, invoke, builtin, hs, hx, hrun, Result.andThen]
    exact hP2
theorem keyD_of {l : List SH} {i : Nat} {s : SH} (h : twV l = false) (hs : l[i]? = some s) : KeyD s.ps := fun k p hp => by
  have hk := (List.getElem?_eq_some_iff.1 hp).1
  cases hd : dupAt s.ps k with
  | false =>
    unfold dupAt at hd
    rw [hp] at hd
    simpa using hd
  | true =>
    have := anyS_yes (bp := dupAt) hs hk hd
    unfold twV at h
    rw [h] at this
    cases this
theorem keyD_nil : KeyD [] := fun k p hp => by simp at hp
theorem propsL_nil (o : Int) (a : List PR) : propsL o [] a = a.map (putL o) := by simp [propsL, goT, stayT, chT]
def RDPost (w : World) (bs ns : List SH) (e : Ending) (X : World) : Prop :=
  ∃ (lv : Value) (er : Int) (r : List DL), e = .returned (.tuple #[lv, .int .i64 er]) ∧ RW w X lv r ∧
    ((ns.length < bs.length ∧ er = 7 ∧ r = []) ∨ (¬ ns.length < bs.length ∧ (twV bs || twV ns) = true ∧ er = 5 ∧ r = []) ∨ (¬ ns.length < bs.length ∧ (twV bs || twV ns) = false ∧ er = 0 ∧ r = diffT bs ns ns.length))
theorem bClassO (n0 : Int) (s : SH) (w : World) : (Instr.build 43 #[(0, .int .i64 n0), (1, .int .i64 2), (2, .int .i64 s.c)]).run Tryd.prog w = .ok (.agg (DL.cs (classL n0 s)).toArray) w := by kernel_rfl
theorem ex_bClassO {o : Oper} {a : Act} {w : World} {x0 x1 x2 : Operand} (n0 : Int) (s : SH) (ho : o.op = .build 43 #[(0, x0), (1, x1), (2, x2)]) (h0 : a.eval x0 = .int .i64 n0) (h1 : a.eval x1 = .int .i64 2) (h2 : a.eval x2 = .int .i64 s.c) : (execOp a.eval o).run Tryd.prog w = .ok (.value (.agg (DL.cs (classL n0 s)).toArray)) w := by
  have e := bClassO n0 s w
  unfold execOp
  simp only [ho, List.map_toArray, List.map_cons, List.map_nil, h0, h1, h2]
  simp [e]
theorem bProtoO (n0 : Int) (s : SH) (w : World) : (Instr.build 43 #[(0, .int .i64 n0), (1, .int .i64 3), (4, .agg s.p.cs.toArray)]).run Tryd.prog w = .ok (.agg (DL.cs (protoL n0 s)).toArray) w := by kernel_rfl
theorem ex_bProtoO {o : Oper} {a : Act} {w : World} {x0 x1 x4 : Operand} (n0 : Int) (s : SH) (ho : o.op = .build 43 #[(0, x0), (1, x1), (4, x4)]) (h0 : a.eval x0 = .int .i64 n0) (h1 : a.eval x1 = .int .i64 3) (h4 : a.eval x4 = .agg s.p.cs.toArray) : (execOp a.eval o).run Tryd.prog w = .ok (.value (.agg (DL.cs (protoL n0 s)).toArray)) w := by
  have e := bProtoO n0 s w
  unfold execOp
  simp only [ho, List.map_toArray, List.map_cons, List.map_nil, h0, h1, h4]
  simp [e]
theorem bExtO (n0 : Int) (s : SH) (w : World) : (Instr.build 43 #[(0, .int .i64 n0), (1, .int .i64 4), (3, .bool s.x)]).run Tryd.prog w = .ok (.agg (DL.cs (extL n0 s)).toArray) w := by kernel_rfl
theorem ex_bExtO {o : Oper} {a : Act} {w : World} {x0 x1 x3 : Operand} (n0 : Int) (s : SH) (ho : o.op = .build 43 #[(0, x0), (1, x1), (3, x3)]) (h0 : a.eval x0 = .int .i64 n0) (h1 : a.eval x1 = .int .i64 4) (h3 : a.eval x3 = .bool s.x) : (execOp a.eval o).run Tryd.prog w = .ok (.value (.agg (DL.cs (extL n0 s)).toArray)) w := by
  have e := bExtO n0 s w
  unfold execOp
  simp only [ho, List.map_toArray, List.map_cons, List.map_nil, h0, h1, h3]
  simp [e]
theorem bMakeO (n0 : Int) (s : SH) (w : World) : (Instr.build 43 #[(0, .int .i64 n0), (1, .int .i64 1), (2, .int .i64 s.c), (4, .agg s.p.cs.toArray), (3, .bool s.x)]).run Tryd.prog w = .ok (.agg (DL.cs (makeL n0 s)).toArray) w := by kernel_rfl
theorem ex_bMakeO {o : Oper} {a : Act} {w : World} {x0 x1 x2 x4 x3 : Operand} (n0 : Int) (s : SH) (ho : o.op = .build 43 #[(0, x0), (1, x1), (2, x2), (4, x4), (3, x3)]) (h0 : a.eval x0 = .int .i64 n0) (h1 : a.eval x1 = .int .i64 1) (h2 : a.eval x2 = .int .i64 s.c) (h4 : a.eval x4 = .agg s.p.cs.toArray) (h3 : a.eval x3 = .bool s.x) : (execOp a.eval o).run Tryd.prog w = .ok (.value (.agg (DL.cs (makeL n0 s)).toArray)) w := by
  have e := bMakeO n0 s w
  unfold execOp
  simp only [ho, List.map_toArray, List.map_cons, List.map_nil, h0, h1, h2, h4, h3]
  simp [e]
theorem bZS (w : World) : (Instr.build 50 #[]).run Tryd.prog w = .ok (.agg (zeroS.cs none 0).toArray) w := by kernel_rfl
theorem ex_bZS {o : Oper} {a : Act} {w : World} (ho : o.op = .build 50 #[]) : (execOp a.eval o).run Tryd.prog w = .ok (.value (.agg (zeroS.cs none 0).toArray)) w := by
  have e := bZS w
  unfold execOp
  simp only [ho, List.map_toArray, List.map_nil]
  simp [e]
/-- A row of our own beside our boxes. -/
structure RS (w X : World) (ov : Value) (xs : List DL) (L : List (Nat × List Value)) : Prop where
  rw : RW w X ov xs
  hq : Hq w X [] L
  sep : ∀ q ∈ L, ov.ownBlock ≠ some q.1
theorem RS.on {w X Y : World} {ov : Value} {xs : List DL} {L : List (Nat × List Value)} (h : RS w X ov xs L) (k : Below X.heap.size X Y) : RS w Y ov xs L := ⟨h.rw.on k, h.hq.on k, h.sep⟩
theorem RS.new {w X : World} {ov : Value} {xs : List DL} {L : List (Nat × List Value)} (h : RS w X ov xs L) (cs : List Value) (T : TypeId) (hc : 0 < cs.length) : RS w (X.alloc (Obj.cells cs.toArray T)) ov xs (L ++ [(X.heap.size, cs)]) := by
  refine ⟨h.rw.on ((Below.refl _ _).alloc (Nat.le_refl _) _), h.hq.new cs T hc, fun q hq => ?_⟩
  rcases List.mem_append.1 hq with hq | hq
  · exact h.sep q hq
  · obtain rfl : q = (X.heap.size, cs) := by simpa using hq
    exact fun e => Nat.lt_irrefl _ (World.ownsRow.lt h.rw.1 _ e).2
theorem RS.put {w X : World} {ov : Value} {xs : List DL} {L : List (Nat × List Value)} (h : RS w X ov xs L) (i : Nat) {b : Nat} {cs : List Value} (hi : L[i]? = some (b, cs)) (p : Nat) (vs : List Value) (hp : p + vs.length ≤ cs.length) (hE : w.heap.size ≤ b) : RS w (X.setCells b p vs) ov xs (L.set i (b, cput cs p vs)) := by
  have hs := h.sep _ (List.mem_of_getElem? hi)
  have hq := h.hq.put i hi p vs hp (.inr hE)
  refine ⟨⟨own_blk h.rw.1 (fun g hg => heap_setCells b vs p X g (fun e => hs (e ▸ hg))), hq.fr⟩, hq, fun q hq2 => ?_⟩
  rcases List.mem_or_eq_of_mem_set hq2 with hq2 | hq2
  · exact h.sep q hq2
  · subst hq2
    exact hs
theorem RS.grow {w X Y : World} {ov ov' : Value} {xs ys : List DL} {L : List (Nat × List Value)} (h : RS w X ov xs L) (hR : RW w Y ov' ys) (hf : Fr X Y ov.ownBlock.toList) (hF : ov'.ownBlock = ov.ownBlock ∨ ∃ g, ov'.ownBlock = some g ∧ X.heap.size ≤ g) : RS w Y ov' ys L :=
  ⟨hR, h.hq.step hf (fun b hb => .inr (World.ownsRow.lt h.rw.1 b (by simpa using hb)).1) (fun q hq hb => h.sep q hq (by simpa using hb)), fun q hq e => by
    rcases hF with e2 | ⟨g, e2, e3⟩
    · exact h.sep q hq (e2 ▸ e)
    · rw [e2] at e
      obtain rfl := Option.some.inj e
      have := h.hq.lt q hq
      omega⟩
theorem RS.left {w X : World} {ov : Value} {xs : List DL} {L M : List (Nat × List Value)} (h : RS w X ov xs (L ++ M)) : RS w X ov xs L := ⟨h.rw, h.hq.left, fun q hq => h.sep q (List.mem_append_left _ hq)⟩
section
variable {ops : Array Oper} {rest : List Oper} {Q : Exit → Act → World → Prop} {w w0 : World} {a : Act} {o : Oper} {L : List (Nat × List Value)} {ov : Value} {xs : List DL}
theorem alR (ty : TypeId) (cs : List Value) (hw : Region.wanted o (yielded ops a.tmps) = true) (ho : o.op = .alloc ty) (hz : ∀ w, (zeroValue ty).run Tryd.prog w = .ok (.agg cs.toArray) w) (hc : 0 < cs.length) (hL : RS w0 w ov xs L)
    (h : ∀ X B, B = w.heap.size → RS w0 X ov xs (L ++ [(B, cs)]) → wpList Tryd.prog ops Q rest (a.put o.dst (.pointer (some ⟨B, 0, none⟩))) X) : wpList Tryd.prog ops Q (o :: rest) a w := by
  refine BigFrame.wpList_want hw fun K hK => ?_
  have hP := hK _ _ (h _ _ rfl (hL.new cs ty hc))
  unfold Oper.wp execOp
  simp only [ho]
  simp [go_sem, hz, Value.cells]
  exact hP
theorem stRS {b p : Nat} {cs vs : List Value} {v : Value} {x y : Operand} (i : Nat) (ty : TypeId) (hw : Region.wanted o (yielded ops a.tmps) = true) (ho : o.op = .store ty x y) (hx : a.eval x = .pointer (some ⟨b, p, none⟩)) (hy : a.eval y = v)
    (hv : v.cells.toList = vs) (h1 : ∀ u ∈ vs, u.oneCell' = true) (hi : (Tryd.prog.info? ty).map (·.size) = some vs.length) (hL : RS w0 w ov xs L) (hg : L[i]? = some (b, cs)) (hp : p + vs.length ≤ cs.length) (hE : w0.heap.size ≤ b)
    (h : ∀ X, RS w0 X ov xs (L.set i (b, cput cs p vs)) → wpList Tryd.prog ops Q rest (a.put o.dst undef) X) : wpList Tryd.prog ops Q (o :: rest) a w := by
  refine BigFrame.wpList_want hw fun K hK => ?_
  have hP := hK _ _ (h _ (hL.put i hg p vs hp hE))
  unfold Oper.wp execOp
  simp only [ho, hx, hy, Instr.storeAt, Instr.sureAddr, Sem.run_bind, Sem.run_pure, Result.andThen_ok, run_storeVar_any w b p ty v vs hv ((hL.hq.get i hg).there p vs.length hp) hi h1]
  exact hP
end
theorem own_one (w : World) (base : Nat) (hb : base ≤ w.heap.size) (d : DL) : (w.alloc (Obj.cells d.cs.toArray 43)).ownsRow base 43 29 (.slice (some ⟨w.heap.size, 0, none⟩) 1 1) 1 (flatL [d]) :=
  ⟨rfl, .inr ⟨w.heap.size, 1, d.cs.toArray, rfl, hb, (MapKept.heap_alloc w _).1, Nat.le_refl _, by unfold maxLen; decide, rfl, by simp [flatL, DL.cs, VV.cs, KK.cs, DD.cs]⟩⟩
theorem bldR {ops : Array Oper} {rest : List Oper} {Q : Exit → Act → World → Prop} {w w0 : World} {a : Act} {o : Oper} {L : List (Nat × List Value)} {ov : Value} {xs : List DL} {x : Operand} (d : DL) (hw : Region.wanted o (yielded ops a.tmps) = true) (ho : o.op = .buildSlice 25 1 #[(0, x)]) (hx : a.eval x = .agg d.cs.toArray) (hL : RS w0 w ov xs L)
    (h : ∀ X B, RS w0 X ov xs L → X.ownsRow w.heap.size 43 29 (.slice (some ⟨B, 0, none⟩) 1 1) [d].length (flatL [d]) → wpList Tryd.prog ops Q rest (a.put o.dst (.slice (some ⟨B, 0, none⟩) 1 1)) X) : wpList Tryd.prog ops Q (o :: rest) a w := by
  refine BigFrame.wpList_want hw fun K hK => ?_
  obtain ⟨i0, hi, hz0, hz1, hz2⟩ := info_parts infL
  refine wp_buildSlice 25 43 1 _ ho d.cs.toArray i0 _ Tryd.underlying25 hi hz0 (by rw [hz1]; omega) (by rw [hz1]; omega) ?_ (hK _ _ (h _ _ (hL.on ((Below.refl _ _).alloc (Nat.le_refl _) _)) (own_one w w.heap.size (Nat.le_refl _) d)))
  rw [hz1]
  simp only [List.map_toArray, List.map_cons, List.map_nil, hx]
  exact fill_one 29 _ (.agg d.cs.toArray) (by simp) rfl
def ReadsV (w : World) (A : Option Addr) (l : List SH) : Prop := ∀ j s, l[j]? = some s → s.p.x < 2 ^ 64 ∧ s.ps.length ≤ 400 ∧ ∃ b off SA cap, A = some ⟨b, off, none⟩ ∧ b < w.heap.size ∧ ReadsP w SA s.ps ∧ w.rangeAt b (off + j * 8) (s.cs SA cap) ∧ s.ps.length ≤ cap ∧ (SA = none → cap = 0)
theorem ReadsV.s {w : World} {A : Option Addr} {l : List SH} (h : ReadsV w A l) : ReadsS w A l := fun j s hs => by
  obtain ⟨h1, h2, b, off, SA, cap, h3, h4, h5, h6, _⟩ := h j s hs
  exact ⟨h1, by omega, b, off, SA, cap, h3, h4, h5, h6⟩
theorem ReadsV.fr {w X : World} {A : Option Addr} {l : List SH} (h : ReadsV w A l) (hf : Fr w X []) : ReadsV X A l := fun j s hs => by
  obtain ⟨h1, h2, b, off, SA, cap, h3, h4, h5, h6, h7⟩ := h j s hs
  exact ⟨h1, h2, b, off, SA, cap, h3, Nat.lt_of_lt_of_le h4 hf.size, h5.fr hf, rangeAt_fr h6 h4 hf, h7⟩
set_option maxHeartbeats 8000000 in
set_option maxRecDepth 100000 in
theorem refDiff_any (A B : Option Addr) (cap cap2 : Nat) (bs ns : List SH) (w : World) (hB : ReadsV w A bs) (hC : ReadsV w B ns) (hz : bs.length ≤ 60) (hz2 : ns.length ≤ 60) : Calls Tryd.prog 9 #[.slice A bs.length cap, .slice B ns.length cap2] w (RDPost w bs ns) := by
  have LL := hide (Hq.nil w [])
  have HB := hide hB
  have HC := hide hC
  have HZ := hide hz
  have HZ2 := hide hz2
  clear hB hC hz hz2
  by_cases hlen : ns.length < bs.length
  · have dl : decide ((ns.length : Int) < (bs.length : Int)) = true := decide_eq_true (by omega)
    have HLE := hide hlen
    clear hlen
    go_enter Tryd.func9, Tryd.ntmps9
    go_wp2_with (first | go_skip | ((with_reducible show wpList _ _ _ _ _ _); first | ((refine rd (by rfl) (ex_lenG 22 50 Tryd.underlying22 rfl rfl) ?_); simp only [Act.put, nzA, nzB, nzC])))
    go_ret2
    exact ⟨.slice none 0 0, 7, [], rfl, RW.nil w _ (unhide LL).fr, .inl ⟨unhide HLE, rfl, rfl⟩⟩
  · have dl : decide ((ns.length : Int) < (bs.length : Int)) = false := decide_eq_false (by omega)
    have HLE := hide hlen
    clear hlen
    go_enter Tryd.func9, Tryd.ntmps9
    go_wp2_with (first | go_skip | ((with_reducible show wpList _ _ _ _ _ _); first | ((refine rd (by rfl) (ex_lenG 22 50 Tryd.underlying22 rfl rfl) ?_); simp only [Act.put, nzA, nzB, nzC])))
    refine (twice_any A cap bs _ ((unhide HB).s.fr (unhide LL).fr) (by have := unhide HZ; omega)).mono ?_
    rintro e Y1 ⟨rfl, hY1⟩
    replace LL := hide ((unhide LL).on hY1)
    clear hY1
    cases htb : twV bs
    · go_wp2_with (first | go_skip | ((with_reducible show wpList _ _ _ _ _ _); first | ((refine rd (by rfl) (ex_lenG 22 50 Tryd.underlying22 rfl rfl) ?_); simp only [Act.put, nzA, nzB, nzC])))
      refine (twice_any B cap2 ns _ ((unhide HC).s.fr (unhide LL).fr) (by have := unhide HZ2; omega)).mono ?_
      rintro e Y2 ⟨rfl, hY2⟩
      replace LL := hide ((unhide LL).on hY2)
      clear hY2
      cases htn : twV ns
      · have HTB := hide htb
        have HTN := hide htn
        clear htb htn
        go_wp2_with (first | go_skip | ((with_reducible show wpList _ _ _ _ _ _); first | ((refine rd (by rfl) (ex_lenG 22 50 Tryd.underlying22 rfl rfl) ?_); simp only [Act.put, nzA, nzB, nzC])))
        go_loopg [6, 7] ns.length (fun gm s6 s7 wr => ∃ (i : Nat), s7 = .int .i64 (i : Nat) ∧ i ≤ ns.length ∧ ns.length - i ≤ gm ∧ (diffT bs ns i).length ≤ 1203 * i ∧ Hid (RS w wr s6 (diffT bs ns i) []))
        case atStart => exact ⟨0, rfl, by omega, by omega, by simp [diffT], hide ⟨RW.nil w _ (unhide LL).fr, unhide LL, by simp⟩⟩
        case round =>
          clear LL
          obtain ⟨i, rfl, hil, hgm, hdl, RR⟩ := hrel
          by_cases hlt : i < ns.length
          · have dlt : decide ((i : Int) < (ns.length : Int)) = true := decide_eq_true (by omega)
            have hw1 : IntKind.i64.wrap ((i : Int) + 1) = (i : Int) + 1 := by have := unhide HZ2; rw [IntKind.wrap_i64]; omega
            obtain ⟨a, ha⟩ : ∃ a, ns[i]? = some a := ⟨_, List.getElem?_eq_getElem hlt⟩
            obtain ⟨hax, hpl, b, off, AA, ac, hA, hb, hrp, hrg, hcap, hac0⟩ := (unhide HC) i a ha
            have HA := hide hA
            have HA2 : Hid (∀ X, Fr w X [] → X.rangeAt b (off + i * 8) (a.cs AA ac)) := hide (fun X hX => rangeAt_fr hrg hb hX)
            have HLT := hide hlt
            have HAX := hide (And.intro hax (And.intro hpl (And.intro hrp (And.intro hcap hac0))))
            have HXS : Hid ((diffT bs ns i).length ≤ 100000) := hide (by have := unhide HZ2; omega)
            have HDL := hide hdl
            clear hax hpl hA hb hrp hrg hcap hac0 hlt hil hdl
            by_cases hib : i < bs.length
            · obtain ⟨bb, hbi⟩ : ∃ bb, bs[i]? = some bb := ⟨_, List.getElem?_eq_getElem hib⟩
              obtain ⟨hbx, hplb, b2, off2, BA, bc, hBe, hb2, hrpb, hrg2, _⟩ := (unhide HB) i bb hbi
              have HDT := hide (diffT_chg ha hbi)
              have HDT2 : Hid ((diffT bs ns (i + 1)).length ≤ (diffT bs ns i).length + 1203) := hide (by rw [unhide HDT, List.length_append]; have := chgL_len ((i : Int) + 1) bb a; have := (unhide HAX).2.1; omega)
              have dib : decide ((i : Int) < (bs.length : Int)) = true := decide_eq_true (by omega)
              have HBe := hide hBe
              have HBE2 : Hid (∀ X, Fr w X [] → X.rangeAt b2 (off2 + i * 8) (bb.cs BA bc)) := hide (fun X hX => rangeAt_fr hrg2 hb2 hX)
              have HIB := hide hib
              have HBX := hide (And.intro hbx (And.intro hplb (And.intro hrpb (keyD_of (unhide HTB) hbi))))
              have HEQ := hide (refEq_any a.p bb.p (unhide HAX).1 hbx)
              rw [eqB_comm a.p bb.p, vagg, vagg] at HEQ
              clear hbx hplb hBe hb2 hrpb hrg2 hbi ha hib
              generalize h1 : (a.c != bb.c) = e1 at *
              generalize h2 : eqB bb.p a.p = e2 at *
              generalize h3 : (a.x != bb.x) = e3 at *
              cases e1
              · go_wp2_with (first | go_skip | ((with_reducible show wpList _ _ _ _ _ _); first | ((refine rd (by rfl) (ex_lenG 22 50 Tryd.underlying22 rfl rfl) ?_); simp only [Act.put, nzA, nzB, nzC]) | ((refine rd (by rfl) (ex_ltI rfl rfl rfl dib) ?_); simp only [Act.put, nzA, nzB, nzC]) | ((refine rd (by rfl) (ex_indexA 22 8 i unSs idSs rfl rfl (unhide HA) rfl (unhide HLT)) ?_); simp only [Act.put, nzA, nzB, nzC]) | ((refine rd (by rfl) (ex_loadR (vs := a.cs AA ac) 50 8 rwS szS rfl rfl (unhide HA2 _ (unhide RR).hq.fr) rfl) ?_); simp only [Act.put, nzA, nzB, nzC]) | ((refine alR 50 (zeroS.cs none 0) (by rfl) rfl (fun w => by kernel_rfl) (Nat.succ_pos _) (show RS w _ _ _ [] from unhide RR) ?_); intro X8 B8 hE8 L8; have hB8 := hide (Nat.le_trans (unhide RR).hq.fr.size (Nat.le_of_eq hE8.symm)); replace RR := hide L8; clear L8 hE8; simp only [Act.put, nzA, nzB, nzC]) | ((refine stRS (vs := a.cs AA ac) 0 50 (by rfl) rfl rfl rfl rfl (shcs_one _ _ _) szS (unhide RR) rfl (by simp [cput, SH.cs, VV.cs, zeroS, zeroV]) (unhide hB8) ?_); intro X9 L9; replace RR := hide L9; clear L9; simp only [Act.put, nzA, nzB, nzC]) | ((refine rd (by rfl) (ex_bZS rfl) ?_); simp only [Act.put, nzA, nzB, nzC]) | ((refine alR 50 (zeroS.cs none 0) (by rfl) rfl (fun w => by kernel_rfl) (Nat.succ_pos _) (unhide RR) ?_); intro X10 B10 hE10 L10; have hB10 := hide (Nat.le_trans (unhide RR).hq.fr.size (Nat.le_of_eq hE10.symm)); replace RR := hide L10; clear L10 hE10; simp only [Act.put, nzA, nzB, nzC]) | ((refine stRS (vs := zeroS.cs none 0) 1 50 (by rfl) rfl rfl rfl rfl (shcs_one _ _ _) szS (unhide RR) rfl (by simp [cput, SH.cs, VV.cs, zeroS, zeroV]) (unhide hB10) ?_); intro X11 L11; replace RR := hide L11; clear L11; simp only [Act.put, nzA, nzB, nzC]) | ((refine rd (by rfl) (ex_indexA 22 8 i unSs idSs rfl rfl (unhide HBe) rfl (unhide HIB)) ?_); simp only [Act.put, nzA, nzB, nzC]) | ((refine rd (by rfl) (ex_loadR (vs := bb.cs BA bc) 50 8 rwS szS rfl rfl (unhide HBE2 _ (unhide RR).hq.fr) rfl) ?_); simp only [Act.put, nzA, nzB, nzC]) | ((refine stRS (vs := bb.cs BA bc) 1 50 (by rfl) rfl rfl rfl rfl (shcs_one _ _ _) szS (unhide RR) rfl (by simp [cput, SH.cs, VV.cs, zeroS, zeroV]) (unhide hB10) ?_); intro X12 L12; replace RR := hide L12; clear L12; simp only [Act.put, nzA, nzB, nzC]) | ((refine rd (by rfl) (ex_addI rfl rfl rfl hw1) ?_); simp only [Act.put, nzA, nzB, nzC]) | ((refine rd (by rfl) (ex_load1 3 Tryd.isAgg3 rfl rfl ((unhide RR).hq.get 0 rfl) rfl) ?_); simp only [Act.put, nzA, nzB, nzC]) | ((refine rd (by rfl) (ex_load1 3 Tryd.isAgg3 rfl rfl ((unhide RR).hq.get 1 rfl) rfl) ?_); simp only [Act.put, nzA, nzB, nzC]) | ((refine rd (by rfl) (ex_loadN (vs := a.p.cs) 36 5 rwV szV rfl rfl ((unhide RR).hq.get 0 rfl) rfl rfl) ?_); simp only [Act.put, nzA, nzB, nzC]) | ((refine rd (by rfl) (ex_load1 4 Tryd.isAgg4 rfl rfl ((unhide RR).hq.get 0 rfl) rfl) ?_); simp only [Act.put, nzA, nzB, nzC]) | ((refine rd (by rfl) (ex_load1 48 Tryd.isAgg48 rfl rfl ((unhide RR).hq.get 0 rfl) rfl) ?_); simp only [Act.put, nzA, nzB, nzC]) | ((refine rd (by rfl) (ex_load1 48 Tryd.isAgg48 rfl rfl ((unhide RR).hq.get 1 rfl) rfl) ?_); simp only [Act.put, nzA, nzB, nzC]) | ((refine rd (by rfl) (ex_loadN (vs := bb.p.cs) 36 5 rwV szV rfl rfl ((unhide RR).hq.get 1 rfl) rfl rfl) ?_); simp only [Act.put, nzA, nzB, nzC]) | ((refine rd (by rfl) (ex_load1 4 Tryd.isAgg4 rfl rfl ((unhide RR).hq.get 1 rfl) rfl) ?_); simp only [Act.put, nzA, nzB, nzC]) | ((refine rd (by rfl) (ex_neI rfl rfl rfl h1) ?_); simp only [Act.put, nzA, nzB, nzC]) | ((refine rd (by rfl) (ex_neB rfl rfl rfl h3) ?_); simp only [Act.put, nzA, nzB, nzC]) | ((refine rd (by rfl) (ex_bClassO ((i : Int) + 1) a rfl rfl rfl rfl) ?_); simp only [Act.put, nzA, nzB, nzC]) | ((refine rd (by rfl) (ex_bProtoO ((i : Int) + 1) a rfl rfl rfl rfl) ?_); simp only [Act.put, nzA, nzB, nzC]) | ((refine rd (by rfl) (ex_bExtO ((i : Int) + 1) a rfl rfl rfl rfl) ?_); simp only [Act.put, nzA, nzB, nzC]) | ((refine bldR (classL ((i : Int) + 1) a) (by rfl) rfl rfl (unhide RR) ?_); intro X3 B3 L3 hP3; have HP3 := hide hP3; replace RR := hide L3; clear L3 hP3; simp only [Act.put, nzA, nzB, nzC]) | ((refine bldR (protoL ((i : Int) + 1) a) (by rfl) rfl rfl (unhide RR) ?_); intro X3 B3 L3 hP3; have HP3 := hide hP3; replace RR := hide L3; clear L3 hP3; simp only [Act.put, nzA, nzB, nzC]) | ((refine bldR (extL ((i : Int) + 1) a) (by rfl) rfl rfl (unhide RR) ?_); intro X3 B3 L3 hP3; have HP3 := hide hP3; replace RR := hide L3; clear L3 hP3; simp only [Act.put, nzA, nzB, nzC]) | ((refine appRW (ds := [_]) rfl rfl rfl rfl (unhide RR).rw (unhide HP3) (by have := unhide HXS; simp; omega) ?_); intro ov7 X7 hr7 hf7 hF7; replace RR := hide ((unhide RR).grow hr7 hf7 hF7); clear hr7 hf7 hF7 HP3; simp only [Act.put, nzA, nzB, nzC])))
                refine (unhide HEQ _).mono ?_
                rintro e Y6 ⟨rfl, hY6⟩
                replace RR := hide ((unhide RR).on hY6)
                clear hY6
                cases e2
                · cases e3
                  · go_wp2_with (first | go_skip | ((with_reducible show wpList _ _ _ _ _ _); first | ((refine rd (by rfl) (ex_lenG 22 50 Tryd.underlying22 rfl rfl) ?_); simp only [Act.put, nzA, nzB, nzC]) | ((refine rd (by rfl) (ex_ltI rfl rfl rfl dib) ?_); simp only [Act.put, nzA, nzB, nzC]) | ((refine rd (by rfl) (ex_indexA 22 8 i unSs idSs rfl rfl (unhide HA) rfl (unhide HLT)) ?_); simp only [Act.put, nzA, nzB, nzC]) | ((refine rd (by rfl) (ex_loadR (vs := a.cs AA ac) 50 8 rwS szS rfl rfl (unhide HA2 _ (unhide RR).hq.fr) rfl) ?_); simp only [Act.put, nzA, nzB, nzC]) | ((refine alR 50 (zeroS.cs none 0) (by rfl) rfl (fun w => by kernel_rfl) (Nat.succ_pos _) (show RS w _ _ _ [] from unhide RR) ?_); intro X8 B8 hE8 L8; have hB8 := hide (Nat.le_trans (unhide RR).hq.fr.size (Nat.le_of_eq hE8.symm)); replace RR := hide L8; clear L8 hE8; simp only [Act.put, nzA, nzB, nzC]) | ((refine stRS (vs := a.cs AA ac) 0 50 (by rfl) rfl rfl rfl rfl (shcs_one _ _ _) szS (unhide RR) rfl (by simp [cput, SH.cs, VV.cs, zeroS, zeroV]) (unhide hB8) ?_); intro X9 L9; replace RR := hide L9; clear L9; simp only [Act.put, nzA, nzB, nzC]) | ((refine rd (by rfl) (ex_bZS rfl) ?_); simp only [Act.put, nzA, nzB, nzC]) | ((refine alR 50 (zeroS.cs none 0) (by rfl) rfl (fun w => by kernel_rfl) (Nat.succ_pos _) (unhide RR) ?_); intro X10 B10 hE10 L10; have hB10 := hide (Nat.le_trans (unhide RR).hq.fr.size (Nat.le_of_eq hE10.symm)); replace RR := hide L10; clear L10 hE10; simp only [Act.put, nzA, nzB, nzC]) | ((refine stRS (vs := zeroS.cs none 0) 1 50 (by rfl) rfl rfl rfl rfl (shcs_one _ _ _) szS (unhide RR) rfl (by simp [cput, SH.cs, VV.cs, zeroS, zeroV]) (unhide hB10) ?_); intro X11 L11; replace RR := hide L11; clear L11; simp only [Act.put, nzA, nzB, nzC]) | ((refine rd (by rfl) (ex_indexA 22 8 i unSs idSs rfl rfl (unhide HBe) rfl (unhide HIB)) ?_); simp only [Act.put, nzA, nzB, nzC]) | ((refine rd (by rfl) (ex_loadR (vs := bb.cs BA bc) 50 8 rwS szS rfl rfl (unhide HBE2 _ (unhide RR).hq.fr) rfl) ?_); simp only [Act.put, nzA, nzB, nzC]) | ((refine stRS (vs := bb.cs BA bc) 1 50 (by rfl) rfl rfl rfl rfl (shcs_one _ _ _) szS (unhide RR) rfl (by simp [cput, SH.cs, VV.cs, zeroS, zeroV]) (unhide hB10) ?_); intro X12 L12; replace RR := hide L12; clear L12; simp only [Act.put, nzA, nzB, nzC]) | ((refine rd (by rfl) (ex_addI rfl rfl rfl hw1) ?_); simp only [Act.put, nzA, nzB, nzC]) | ((refine rd (by rfl) (ex_load1 3 Tryd.isAgg3 rfl rfl ((unhide RR).hq.get 0 rfl) rfl) ?_); simp only [Act.put, nzA, nzB, nzC]) | ((refine rd (by rfl) (ex_load1 3 Tryd.isAgg3 rfl rfl ((unhide RR).hq.get 1 rfl) rfl) ?_); simp only [Act.put, nzA, nzB, nzC]) | ((refine rd (by rfl) (ex_loadN (vs := a.p.cs) 36 5 rwV szV rfl rfl ((unhide RR).hq.get 0 rfl) rfl rfl) ?_); simp only [Act.put, nzA, nzB, nzC]) | ((refine rd (by rfl) (ex_load1 4 Tryd.isAgg4 rfl rfl ((unhide RR).hq.get 0 rfl) rfl) ?_); simp only [Act.put, nzA, nzB, nzC]) | ((refine rd (by rfl) (ex_load1 48 Tryd.isAgg48 rfl rfl ((unhide RR).hq.get 0 rfl) rfl) ?_); simp only [Act.put, nzA, nzB, nzC]) | ((refine rd (by rfl) (ex_load1 48 Tryd.isAgg48 rfl rfl ((unhide RR).hq.get 1 rfl) rfl) ?_); simp only [Act.put, nzA, nzB, nzC]) | ((refine rd (by rfl) (ex_loadN (vs := bb.p.cs) 36 5 rwV szV rfl rfl ((unhide RR).hq.get 1 rfl) rfl rfl) ?_); simp only [Act.put, nzA, nzB, nzC]) | ((refine rd (by rfl) (ex_load1 4 Tryd.isAgg4 rfl rfl ((unhide RR).hq.get 1 rfl) rfl) ?_); simp only [Act.put, nzA, nzB, nzC]) | ((refine rd (by rfl) (ex_neI rfl rfl rfl h1) ?_); simp only [Act.put, nzA, nzB, nzC]) | ((refine rd (by rfl) (ex_neB rfl rfl rfl h3) ?_); simp only [Act.put, nzA, nzB, nzC]) | ((refine rd (by rfl) (ex_bClassO ((i : Int) + 1) a rfl rfl rfl rfl) ?_); simp only [Act.put, nzA, nzB, nzC]) | ((refine rd (by rfl) (ex_bProtoO ((i : Int) + 1) a rfl rfl rfl rfl) ?_); simp only [Act.put, nzA, nzB, nzC]) | ((refine rd (by rfl) (ex_bExtO ((i : Int) + 1) a rfl rfl rfl rfl) ?_); simp only [Act.put, nzA, nzB, nzC]) | ((refine bldR (classL ((i : Int) + 1) a) (by rfl) rfl rfl (unhide RR) ?_); intro X3 B3 L3 hP3; have HP3 := hide hP3; replace RR := hide L3; clear L3 hP3; simp only [Act.put, nzA, nzB, nzC]) | ((refine bldR (protoL ((i : Int) + 1) a) (by rfl) rfl rfl (unhide RR) ?_); intro X3 B3 L3 hP3; have HP3 := hide hP3; replace RR := hide L3; clear L3 hP3; simp only [Act.put, nzA, nzB, nzC]) | ((refine bldR (extL ((i : Int) + 1) a) (by rfl) rfl rfl (unhide RR) ?_); intro X3 B3 L3 hP3; have HP3 := hide hP3; replace RR := hide L3; clear L3 hP3; simp only [Act.put, nzA, nzB, nzC]) | ((refine appRW (ds := [_]) rfl rfl rfl rfl (unhide RR).rw (unhide HP3) (by have := unhide HXS; simp; omega) ?_); intro ov7 X7 hr7 hf7 hF7; replace RR := hide ((unhide RR).grow hr7 hf7 hF7); clear hr7 hf7 hF7 HP3; simp only [Act.put, nzA, nzB, nzC])))
                    have hpr := refProps_any ((i : Int) + 1) bb.ps a.ps BA AA bc ac _ ((unhide HBX).2.2.1.fr (unhide RR).hq.fr) ((unhide HAX).2.2.1.fr (unhide RR).hq.fr) (unhide HAX).2.2.2.1 (unhide HAX).2.2.2.2 ((unhide HBX).2.1) (unhide HAX).2.1
                    refine hpr.mono ?_
                    clear hpr
                    rintro e Y5 ⟨pv, n, at_, rfl, hkn, hks, hrw⟩
                    rw [props_same ((i : Int) + 1) (unhide HBX).2.2.2 hkn hks] at hrw
                    have HP5 := hide hrw.1
                    replace RR := hide ((unhide RR).on hrw.2.below)
                    have HPL : Hid ((propsL ((i : Int) + 1) bb.ps a.ps).length ≤ 1200) := hide (by have h9 := propsL_len ((i : Int) + 1) bb.ps a.ps; have := (unhide HAX).2.1; have := (unhide HBX).2.1; omega)
                    clear hkn hks hrw
                    go_wp2_with (first | go_skip | ((with_reducible show wpList _ _ _ _ _ _); first | ((refine appRW (ds := propsL ((i : Int) + 1) bb.ps a.ps) rfl rfl rfl rfl (unhide RR).rw (unhide HP5) (by have := unhide HXS; have := unhide HPL; have := (unhide HAX).2.1; have := (unhide HBX).2.1; simp; omega) ?_); intro ov8 X8 hr8 hf8 hF8; replace RR := hide ((unhide RR).grow hr8 hf8 hF8); clear hr8 hf8 hF8 HP5; simp only [Act.put, nzA, nzB, nzC])))
                    have RN : Hid (RS w X8 ov8 (diffT bs ns (i + 1)) []) := hide (by have h9 := RS.left (L := []) (unhide RR); rw [unhide HDT]; simpa [chgL, h1, h2, h3] using h9)
                    have HD2 : Hid ((diffT bs ns (i + 1)).length ≤ 1203 * (i + 1)) := hide (by have h9 := unhide HDT2; have := unhide HDL; omega)
                    clear RR
                    go_roundg (ns.length - (i + 1))
                    case measure => have := unhide HLT; omega
                    case rel => exact ⟨i + 1, by go_num, by have := unhide HLT; omega, by omega, unhide HD2, RN⟩
                  · go_wp2_with (first | go_skip | ((with_reducible show wpList _ _ _ _ _ _); first | ((refine rd (by rfl) (ex_lenG 22 50 Tryd.underlying22 rfl rfl) ?_); simp only [Act.put, nzA, nzB, nzC]) | ((refine rd (by rfl) (ex_ltI rfl rfl rfl dib) ?_); simp only [Act.put, nzA, nzB, nzC]) | ((refine rd (by rfl) (ex_indexA 22 8 i unSs idSs rfl rfl (unhide HA) rfl (unhide HLT)) ?_); simp only [Act.put, nzA, nzB, nzC]) | ((refine rd (by rfl) (ex_loadR (vs := a.cs AA ac) 50 8 rwS szS rfl rfl (unhide HA2 _ (unhide RR).hq.fr) rfl) ?_); simp only [Act.put, nzA, nzB, nzC]) | ((refine alR 50 (zeroS.cs none 0) (by rfl) rfl (fun w => by kernel_rfl) (Nat.succ_pos _) (show RS w _ _ _ [] from unhide RR) ?_); intro X8 B8 hE8 L8; have hB8 := hide (Nat.le_trans (unhide RR).hq.fr.size (Nat.le_of_eq hE8.symm)); replace RR := hide L8; clear L8 hE8; simp only [Act.put, nzA, nzB, nzC]) | ((refine stRS (vs := a.cs AA ac) 0 50 (by rfl) rfl rfl rfl rfl (shcs_one _ _ _) szS (unhide RR) rfl (by simp [cput, SH.cs, VV.cs, zeroS, zeroV]) (unhide hB8) ?_); intro X9 L9; replace RR := hide L9; clear L9; simp only [Act.put, nzA, nzB, nzC]) | ((refine rd (by rfl) (ex_bZS rfl) ?_); simp only [Act.put, nzA, nzB, nzC]) | ((refine alR 50 (zeroS.cs none 0) (by rfl) rfl (fun w => by kernel_rfl) (Nat.succ_pos _) (unhide RR) ?_); intro X10 B10 hE10 L10; have hB10 := hide (Nat.le_trans (unhide RR).hq.fr.size (Nat.le_of_eq hE10.symm)); replace RR := hide L10; clear L10 hE10; simp only [Act.put, nzA, nzB, nzC]) | ((refine stRS (vs := zeroS.cs none 0) 1 50 (by rfl) rfl rfl rfl rfl (shcs_one _ _ _) szS (unhide RR) rfl (by simp [cput, SH.cs, VV.cs, zeroS, zeroV]) (unhide hB10) ?_); intro X11 L11; replace RR := hide L11; clear L11; simp only [Act.put, nzA, nzB, nzC]) | ((refine rd (by rfl) (ex_indexA 22 8 i unSs idSs rfl rfl (unhide HBe) rfl (unhide HIB)) ?_); simp only [Act.put, nzA, nzB, nzC]) | ((refine rd (by rfl) (ex_loadR (vs := bb.cs BA bc) 50 8 rwS szS rfl rfl (unhide HBE2 _ (unhide RR).hq.fr) rfl) ?_); simp only [Act.put, nzA, nzB, nzC]) | ((refine stRS (vs := bb.cs BA bc) 1 50 (by rfl) rfl rfl rfl rfl (shcs_one _ _ _) szS (unhide RR) rfl (by simp [cput, SH.cs, VV.cs, zeroS, zeroV]) (unhide hB10) ?_); intro X12 L12; replace RR := hide L12; clear L12; simp only [Act.put, nzA, nzB, nzC]) | ((refine rd (by rfl) (ex_addI rfl rfl rfl hw1) ?_); simp only [Act.put, nzA, nzB, nzC]) | ((refine rd (by rfl) (ex_load1 3 Tryd.isAgg3 rfl rfl ((unhide RR).hq.get 0 rfl) rfl) ?_); simp only [Act.put, nzA, nzB, nzC]) | ((refine rd (by rfl) (ex_load1 3 Tryd.isAgg3 rfl rfl ((unhide RR).hq.get 1 rfl) rfl) ?_); simp only [Act.put, nzA, nzB, nzC]) | ((refine rd (by rfl) (ex_loadN (vs := a.p.cs) 36 5 rwV szV rfl rfl ((unhide RR).hq.get 0 rfl) rfl rfl) ?_); simp only [Act.put, nzA, nzB, nzC]) | ((refine rd (by rfl) (ex_load1 4 Tryd.isAgg4 rfl rfl ((unhide RR).hq.get 0 rfl) rfl) ?_); simp only [Act.put, nzA, nzB, nzC]) | ((refine rd (by rfl) (ex_load1 48 Tryd.isAgg48 rfl rfl ((unhide RR).hq.get 0 rfl) rfl) ?_); simp only [Act.put, nzA, nzB, nzC]) | ((refine rd (by rfl) (ex_load1 48 Tryd.isAgg48 rfl rfl ((unhide RR).hq.get 1 rfl) rfl) ?_); simp only [Act.put, nzA, nzB, nzC]) | ((refine rd (by rfl) (ex_loadN (vs := bb.p.cs) 36 5 rwV szV rfl rfl ((unhide RR).hq.get 1 rfl) rfl rfl) ?_); simp only [Act.put, nzA, nzB, nzC]) | ((refine rd (by rfl) (ex_load1 4 Tryd.isAgg4 rfl rfl ((unhide RR).hq.get 1 rfl) rfl) ?_); simp only [Act.put, nzA, nzB, nzC]) | ((refine rd (by rfl) (ex_neI rfl rfl rfl h1) ?_); simp only [Act.put, nzA, nzB, nzC]) | ((refine rd (by rfl) (ex_neB rfl rfl rfl h3) ?_); simp only [Act.put, nzA, nzB, nzC]) | ((refine rd (by rfl) (ex_bClassO ((i : Int) + 1) a rfl rfl rfl rfl) ?_); simp only [Act.put, nzA, nzB, nzC]) | ((refine rd (by rfl) (ex_bProtoO ((i : Int) + 1) a rfl rfl rfl rfl) ?_); simp only [Act.put, nzA, nzB, nzC]) | ((refine rd (by rfl) (ex_bExtO ((i : Int) + 1) a rfl rfl rfl rfl) ?_); simp only [Act.put, nzA, nzB, nzC]) | ((refine bldR (classL ((i : Int) + 1) a) (by rfl) rfl rfl (unhide RR) ?_); intro X3 B3 L3 hP3; have HP3 := hide hP3; replace RR := hide L3; clear L3 hP3; simp only [Act.put, nzA, nzB, nzC]) | ((refine bldR (protoL ((i : Int) + 1) a) (by rfl) rfl rfl (unhide RR) ?_); intro X3 B3 L3 hP3; have HP3 := hide hP3; replace RR := hide L3; clear L3 hP3; simp only [Act.put, nzA, nzB, nzC]) | ((refine bldR (extL ((i : Int) + 1) a) (by rfl) rfl rfl (unhide RR) ?_); intro X3 B3 L3 hP3; have HP3 := hide hP3; replace RR := hide L3; clear L3 hP3; simp only [Act.put, nzA, nzB, nzC]) | ((refine appRW (ds := [_]) rfl rfl rfl rfl (unhide RR).rw (unhide HP3) (by have := unhide HXS; simp; omega) ?_); intro ov7 X7 hr7 hf7 hF7; replace RR := hide ((unhide RR).grow hr7 hf7 hF7); clear hr7 hf7 hF7 HP3; simp only [Act.put, nzA, nzB, nzC])))
                    have hpr := refProps_any ((i : Int) + 1) bb.ps a.ps BA AA bc ac _ ((unhide HBX).2.2.1.fr (unhide RR).hq.fr) ((unhide HAX).2.2.1.fr (unhide RR).hq.fr) (unhide HAX).2.2.2.1 (unhide HAX).2.2.2.2 ((unhide HBX).2.1) (unhide HAX).2.1
                    refine hpr.mono ?_
                    clear hpr
                    rintro e Y5 ⟨pv, n, at_, rfl, hkn, hks, hrw⟩
                    rw [props_same ((i : Int) + 1) (unhide HBX).2.2.2 hkn hks] at hrw
                    have HP5 := hide hrw.1
                    replace RR := hide ((unhide RR).on hrw.2.below)
                    have HPL : Hid ((propsL ((i : Int) + 1) bb.ps a.ps).length ≤ 1200) := hide (by have h9 := propsL_len ((i : Int) + 1) bb.ps a.ps; have := (unhide HAX).2.1; have := (unhide HBX).2.1; omega)
                    clear hkn hks hrw
                    go_wp2_with (first | go_skip | ((with_reducible show wpList _ _ _ _ _ _); first | ((refine appRW (ds := propsL ((i : Int) + 1) bb.ps a.ps) rfl rfl rfl rfl (unhide RR).rw (unhide HP5) (by have := unhide HXS; have := unhide HPL; have := (unhide HAX).2.1; have := (unhide HBX).2.1; simp; omega) ?_); intro ov8 X8 hr8 hf8 hF8; replace RR := hide ((unhide RR).grow hr8 hf8 hF8); clear hr8 hf8 hF8 HP5; simp only [Act.put, nzA, nzB, nzC])))
                    have RN : Hid (RS w X8 ov8 (diffT bs ns (i + 1)) []) := hide (by have h9 := RS.left (L := []) (unhide RR); rw [unhide HDT]; simpa [chgL, h1, h2, h3] using h9)
                    have HD2 : Hid ((diffT bs ns (i + 1)).length ≤ 1203 * (i + 1)) := hide (by have h9 := unhide HDT2; have := unhide HDL; omega)
                    clear RR
                    go_roundg (ns.length - (i + 1))
                    case measure => have := unhide HLT; omega
                    case rel => exact ⟨i + 1, by go_num, by have := unhide HLT; omega, by omega, unhide HD2, RN⟩
                · cases e3
                  · go_wp2_with (first | go_skip | ((with_reducible show wpList _ _ _ _ _ _); first | ((refine rd (by rfl) (ex_lenG 22 50 Tryd.underlying22 rfl rfl) ?_); simp only [Act.put, nzA, nzB, nzC]) | ((refine rd (by rfl) (ex_ltI rfl rfl rfl dib) ?_); simp only [Act.put, nzA, nzB, nzC]) | ((refine rd (by rfl) (ex_indexA 22 8 i unSs idSs rfl rfl (unhide HA) rfl (unhide HLT)) ?_); simp only [Act.put, nzA, nzB, nzC]) | ((refine rd (by rfl) (ex_loadR (vs := a.cs AA ac) 50 8 rwS szS rfl rfl (unhide HA2 _ (unhide RR).hq.fr) rfl) ?_); simp only [Act.put, nzA, nzB, nzC]) | ((refine alR 50 (zeroS.cs none 0) (by rfl) rfl (fun w => by kernel_rfl) (Nat.succ_pos _) (show RS w _ _ _ [] from unhide RR) ?_); intro X8 B8 hE8 L8; have hB8 := hide (Nat.le_trans (unhide RR).hq.fr.size (Nat.le_of_eq hE8.symm)); replace RR := hide L8; clear L8 hE8; simp only [Act.put, nzA, nzB, nzC]) | ((refine stRS (vs := a.cs AA ac) 0 50 (by rfl) rfl rfl rfl rfl (shcs_one _ _ _) szS (unhide RR) rfl (by simp [cput, SH.cs, VV.cs, zeroS, zeroV]) (unhide hB8) ?_); intro X9 L9; replace RR := hide L9; clear L9; simp only [Act.put, nzA, nzB, nzC]) | ((refine rd (by rfl) (ex_bZS rfl) ?_); simp only [Act.put, nzA, nzB, nzC]) | ((refine alR 50 (zeroS.cs none 0) (by rfl) rfl (fun w => by kernel_rfl) (Nat.succ_pos _) (unhide RR) ?_); intro X10 B10 hE10 L10; have hB10 := hide (Nat.le_trans (unhide RR).hq.fr.size (Nat.le_of_eq hE10.symm)); replace RR := hide L10; clear L10 hE10; simp only [Act.put, nzA, nzB, nzC]) | ((refine stRS (vs := zeroS.cs none 0) 1 50 (by rfl) rfl rfl rfl rfl (shcs_one _ _ _) szS (unhide RR) rfl (by simp [cput, SH.cs, VV.cs, zeroS, zeroV]) (unhide hB10) ?_); intro X11 L11; replace RR := hide L11; clear L11; simp only [Act.put, nzA, nzB, nzC]) | ((refine rd (by rfl) (ex_indexA 22 8 i unSs idSs rfl rfl (unhide HBe) rfl (unhide HIB)) ?_); simp only [Act.put, nzA, nzB, nzC]) | ((refine rd (by rfl) (ex_loadR (vs := bb.cs BA bc) 50 8 rwS szS rfl rfl (unhide HBE2 _ (unhide RR).hq.fr) rfl) ?_); simp only [Act.put, nzA, nzB, nzC]) | ((refine stRS (vs := bb.cs BA bc) 1 50 (by rfl) rfl rfl rfl rfl (shcs_one _ _ _) szS (unhide RR) rfl (by simp [cput, SH.cs, VV.cs, zeroS, zeroV]) (unhide hB10) ?_); intro X12 L12; replace RR := hide L12; clear L12; simp only [Act.put, nzA, nzB, nzC]) | ((refine rd (by rfl) (ex_addI rfl rfl rfl hw1) ?_); simp only [Act.put, nzA, nzB, nzC]) | ((refine rd (by rfl) (ex_load1 3 Tryd.isAgg3 rfl rfl ((unhide RR).hq.get 0 rfl) rfl) ?_); simp only [Act.put, nzA, nzB, nzC]) | ((refine rd (by rfl) (ex_load1 3 Tryd.isAgg3 rfl rfl ((unhide RR).hq.get 1 rfl) rfl) ?_); simp only [Act.put, nzA, nzB, nzC]) | ((refine rd (by rfl) (ex_loadN (vs := a.p.cs) 36 5 rwV szV rfl rfl ((unhide RR).hq.get 0 rfl) rfl rfl) ?_); simp only [Act.put, nzA, nzB, nzC]) | ((refine rd (by rfl) (ex_load1 4 Tryd.isAgg4 rfl rfl ((unhide RR).hq.get 0 rfl) rfl) ?_); simp only [Act.put, nzA, nzB, nzC]) | ((refine rd (by rfl) (ex_load1 48 Tryd.isAgg48 rfl rfl ((unhide RR).hq.get 0 rfl) rfl) ?_); simp only [Act.put, nzA, nzB, nzC]) | ((refine rd (by rfl) (ex_load1 48 Tryd.isAgg48 rfl rfl ((unhide RR).hq.get 1 rfl) rfl) ?_); simp only [Act.put, nzA, nzB, nzC]) | ((refine rd (by rfl) (ex_loadN (vs := bb.p.cs) 36 5 rwV szV rfl rfl ((unhide RR).hq.get 1 rfl) rfl rfl) ?_); simp only [Act.put, nzA, nzB, nzC]) | ((refine rd (by rfl) (ex_load1 4 Tryd.isAgg4 rfl rfl ((unhide RR).hq.get 1 rfl) rfl) ?_); simp only [Act.put, nzA, nzB, nzC]) | ((refine rd (by rfl) (ex_neI rfl rfl rfl h1) ?_); simp only [Act.put, nzA, nzB, nzC]) | ((refine rd (by rfl) (ex_neB rfl rfl rfl h3) ?_); simp only [Act.put, nzA, nzB, nzC]) | ((refine rd (by rfl) (ex_bClassO ((i : Int) + 1) a rfl rfl rfl rfl) ?_); simp only [Act.put, nzA, nzB, nzC]) | ((refine rd (by rfl) (ex_bProtoO ((i : Int) + 1) a rfl rfl rfl rfl) ?_); simp only [Act.put, nzA, nzB, nzC]) | ((refine rd (by rfl) (ex_bExtO ((i : Int) + 1) a rfl rfl rfl rfl) ?_); simp only [Act.put, nzA, nzB, nzC]) | ((refine bldR (classL ((i : Int) + 1) a) (by rfl) rfl rfl (unhide RR) ?_); intro X3 B3 L3 hP3; have HP3 := hide hP3; replace RR := hide L3; clear L3 hP3; simp only [Act.put, nzA, nzB, nzC]) | ((refine bldR (protoL ((i : Int) + 1) a) (by rfl) rfl rfl (unhide RR) ?_); intro X3 B3 L3 hP3; have HP3 := hide hP3; replace RR := hide L3; clear L3 hP3; simp only [Act.put, nzA, nzB, nzC]) | ((refine bldR (extL ((i : Int) + 1) a) (by rfl) rfl rfl (unhide RR) ?_); intro X3 B3 L3 hP3; have HP3 := hide hP3; replace RR := hide L3; clear L3 hP3; simp only [Act.put, nzA, nzB, nzC]) | ((refine appRW (ds := [_]) rfl rfl rfl rfl (unhide RR).rw (unhide HP3) (by have := unhide HXS; simp; omega) ?_); intro ov7 X7 hr7 hf7 hF7; replace RR := hide ((unhide RR).grow hr7 hf7 hF7); clear hr7 hf7 hF7 HP3; simp only [Act.put, nzA, nzB, nzC])))
                    have hpr := refProps_any ((i : Int) + 1) bb.ps a.ps BA AA bc ac _ ((unhide HBX).2.2.1.fr (unhide RR).hq.fr) ((unhide HAX).2.2.1.fr (unhide RR).hq.fr) (unhide HAX).2.2.2.1 (unhide HAX).2.2.2.2 ((unhide HBX).2.1) (unhide HAX).2.1
                    refine hpr.mono ?_
                    clear hpr
                    rintro e Y5 ⟨pv, n, at_, rfl, hkn, hks, hrw⟩
                    rw [props_same ((i : Int) + 1) (unhide HBX).2.2.2 hkn hks] at hrw
                    have HP5 := hide hrw.1
                    replace RR := hide ((unhide RR).on hrw.2.below)
                    have HPL : Hid ((propsL ((i : Int) + 1) bb.ps a.ps).length ≤ 1200) := hide (by have h9 := propsL_len ((i : Int) + 1) bb.ps a.ps; have := (unhide HAX).2.1; have := (unhide HBX).2.1; omega)
                    clear hkn hks hrw
                    go_wp2_with (first | go_skip | ((with_reducible show wpList _ _ _ _ _ _); first | ((refine appRW (ds := propsL ((i : Int) + 1) bb.ps a.ps) rfl rfl rfl rfl (unhide RR).rw (unhide HP5) (by have := unhide HXS; have := unhide HPL; have := (unhide HAX).2.1; have := (unhide HBX).2.1; simp; omega) ?_); intro ov8 X8 hr8 hf8 hF8; replace RR := hide ((unhide RR).grow hr8 hf8 hF8); clear hr8 hf8 hF8 HP5; simp only [Act.put, nzA, nzB, nzC])))
                    have RN : Hid (RS w X8 ov8 (diffT bs ns (i + 1)) []) := hide (by have h9 := RS.left (L := []) (unhide RR); rw [unhide HDT]; simpa [chgL, h1, h2, h3] using h9)
                    have HD2 : Hid ((diffT bs ns (i + 1)).length ≤ 1203 * (i + 1)) := hide (by have h9 := unhide HDT2; have := unhide HDL; omega)
                    clear RR
                    go_roundg (ns.length - (i + 1))
                    case measure => have := unhide HLT; omega
                    case rel => exact ⟨i + 1, by go_num, by have := unhide HLT; omega, by omega, unhide HD2, RN⟩
                  · go_wp2_with (first | go_skip | ((with_reducible show wpList _ _ _ _ _ _); first | ((refine rd (by rfl) (ex_lenG 22 50 Tryd.underlying22 rfl rfl) ?_); simp only [Act.put, nzA, nzB, nzC]) | ((refine rd (by rfl) (ex_ltI rfl rfl rfl dib) ?_); simp only [Act.put, nzA, nzB, nzC]) | ((refine rd (by rfl) (ex_indexA 22 8 i unSs idSs rfl rfl (unhide HA) rfl (unhide HLT)) ?_); simp only [Act.put, nzA, nzB, nzC]) | ((refine rd (by rfl) (ex_loadR (vs := a.cs AA ac) 50 8 rwS szS rfl rfl (unhide HA2 _ (unhide RR).hq.fr) rfl) ?_); simp only [Act.put, nzA, nzB, nzC]) | ((refine alR 50 (zeroS.cs none 0) (by rfl) rfl (fun w => by kernel_rfl) (Nat.succ_pos _) (show RS w _ _ _ [] from unhide RR) ?_); intro X8 B8 hE8 L8; have hB8 := hide (Nat.le_trans (unhide RR).hq.fr.size (Nat.le_of_eq hE8.symm)); replace RR := hide L8; clear L8 hE8; simp only [Act.put, nzA, nzB, nzC]) | ((refine stRS (vs := a.cs AA ac) 0 50 (by rfl) rfl rfl rfl rfl (shcs_one _ _ _) szS (unhide RR) rfl (by simp [cput, SH.cs, VV.cs, zeroS, zeroV]) (unhide hB8) ?_); intro X9 L9; replace RR := hide L9; clear L9; simp only [Act.put, nzA, nzB, nzC]) | ((refine rd (by rfl) (ex_bZS rfl) ?_); simp only [Act.put, nzA, nzB, nzC]) | ((refine alR 50 (zeroS.cs none 0) (by rfl) rfl (fun w => by kernel_rfl) (Nat.succ_pos _) (unhide RR) ?_); intro X10 B10 hE10 L10; have hB10 := hide (Nat.le_trans (unhide RR).hq.fr.size (Nat.le_of_eq hE10.symm)); replace RR := hide L10; clear L10 hE10; simp only [Act.put, nzA, nzB, nzC]) | ((refine stRS (vs := zeroS.cs none 0) 1 50 (by rfl) rfl rfl rfl rfl (shcs_one _ _ _) szS (unhide RR) rfl (by simp [cput, SH.cs, VV.cs, zeroS, zeroV]) (unhide hB10) ?_); intro X11 L11; replace RR := hide L11; clear L11; simp only [Act.put, nzA, nzB, nzC]) | ((refine rd (by rfl) (ex_indexA 22 8 i unSs idSs rfl rfl (unhide HBe) rfl (unhide HIB)) ?_); simp only [Act.put, nzA, nzB, nzC]) | ((refine rd (by rfl) (ex_loadR (vs := bb.cs BA bc) 50 8 rwS szS rfl rfl (unhide HBE2 _ (unhide RR).hq.fr) rfl) ?_); simp only [Act.put, nzA, nzB, nzC]) | ((refine stRS (vs := bb.cs BA bc) 1 50 (by rfl) rfl rfl rfl rfl (shcs_one _ _ _) szS (unhide RR) rfl (by simp [cput, SH.cs, VV.cs, zeroS, zeroV]) (unhide hB10) ?_); intro X12 L12; replace RR := hide L12; clear L12; simp only [Act.put, nzA, nzB, nzC]) | ((refine rd (by rfl) (ex_addI rfl rfl rfl hw1) ?_); simp only [Act.put, nzA, nzB, nzC]) | ((refine rd (by rfl) (ex_load1 3 Tryd.isAgg3 rfl rfl ((unhide RR).hq.get 0 rfl) rfl) ?_); simp only [Act.put, nzA, nzB, nzC]) | ((refine rd (by rfl) (ex_load1 3 Tryd.isAgg3 rfl rfl ((unhide RR).hq.get 1 rfl) rfl) ?_); simp only [Act.put, nzA, nzB, nzC]) | ((refine rd (by rfl) (ex_loadN (vs := a.p.cs) 36 5 rwV szV rfl rfl ((unhide RR).hq.get 0 rfl) rfl rfl) ?_); simp only [Act.put, nzA, nzB, nzC]) | ((refine rd (by rfl) (ex_load1 4 Tryd.isAgg4 rfl rfl ((unhide RR).hq.get 0 rfl) rfl) ?_); simp only [Act.put, nzA, nzB, nzC]) | ((refine rd (by rfl) (ex_load1 48 Tryd.isAgg48 rfl rfl ((unhide RR).hq.get 0 rfl) rfl) ?_); simp only [Act.put, nzA, nzB, nzC]) | ((refine rd (by rfl) (ex_load1 48 Tryd.isAgg48 rfl rfl ((unhide RR).hq.get 1 rfl) rfl) ?_); simp only [Act.put, nzA, nzB, nzC]) | ((refine rd (by rfl) (ex_loadN (vs := bb.p.cs) 36 5 rwV szV rfl rfl ((unhide RR).hq.get 1 rfl) rfl rfl) ?_); simp only [Act.put, nzA, nzB, nzC]) | ((refine rd (by rfl) (ex_load1 4 Tryd.isAgg4 rfl rfl ((unhide RR).hq.get 1 rfl) rfl) ?_); simp only [Act.put, nzA, nzB, nzC]) | ((refine rd (by rfl) (ex_neI rfl rfl rfl h1) ?_); simp only [Act.put, nzA, nzB, nzC]) | ((refine rd (by rfl) (ex_neB rfl rfl rfl h3) ?_); simp only [Act.put, nzA, nzB, nzC]) | ((refine rd (by rfl) (ex_bClassO ((i : Int) + 1) a rfl rfl rfl rfl) ?_); simp only [Act.put, nzA, nzB, nzC]) | ((refine rd (by rfl) (ex_bProtoO ((i : Int) + 1) a rfl rfl rfl rfl) ?_); simp only [Act.put, nzA, nzB, nzC]) | ((refine rd (by rfl) (ex_bExtO ((i : Int) + 1) a rfl rfl rfl rfl) ?_); simp only [Act.put, nzA, nzB, nzC]) | ((refine bldR (classL ((i : Int) + 1) a) (by rfl) rfl rfl (unhide RR) ?_); intro X3 B3 L3 hP3; have HP3 := hide hP3; replace RR := hide L3; clear L3 hP3; simp only [Act.put, nzA, nzB, nzC]) | ((refine bldR (protoL ((i : Int) + 1) a) (by rfl) rfl rfl (unhide RR) ?_); intro X3 B3 L3 hP3; have HP3 := hide hP3; replace RR := hide L3; clear L3 hP3; simp only [Act.put, nzA, nzB, nzC]) | ((refine bldR (extL ((i : Int) + 1) a) (by rfl) rfl rfl (unhide RR) ?_); intro X3 B3 L3 hP3; have HP3 := hide hP3; replace RR := hide L3; clear L3 hP3; simp only [Act.put, nzA, nzB, nzC]) | ((refine appRW (ds := [_]) rfl rfl rfl rfl (unhide RR).rw (unhide HP3) (by have := unhide HXS; simp; omega) ?_); intro ov7 X7 hr7 hf7 hF7; replace RR := hide ((unhide RR).grow hr7 hf7 hF7); clear hr7 hf7 hF7 HP3; simp only [Act.put, nzA, nzB, nzC])))
                    have hpr := refProps_any ((i : Int) + 1) bb.ps a.ps BA AA bc ac _ ((unhide HBX).2.2.1.fr (unhide RR).hq.fr) ((unhide HAX).2.2.1.fr (unhide RR).hq.fr) (unhide HAX).2.2.2.1 (unhide HAX).2.2.2.2 ((unhide HBX).2.1) (unhide HAX).2.1
                    refine hpr.mono ?_
                    clear hpr
                    rintro e Y5 ⟨pv, n, at_, rfl, hkn, hks, hrw⟩
                    rw [props_same ((i : Int) + 1) (unhide HBX).2.2.2 hkn hks] at hrw
                    have HP5 := hide hrw.1
                    replace RR := hide ((unhide RR).on hrw.2.below)
                    have HPL : Hid ((propsL ((i : Int) + 1) bb.ps a.ps).length ≤ 1200) := hide (by have h9 := propsL_len ((i : Int) + 1) bb.ps a.ps; have := (unhide HAX).2.1; have := (unhide HBX).2.1; omega)
                    clear hkn hks hrw
                    go_wp2_with (first | go_skip | ((with_reducible show wpList _ _ _ _ _ _); first | ((refine appRW (ds := propsL ((i : Int) + 1) bb.ps a.ps) rfl rfl rfl rfl (unhide RR).rw (unhide HP5) (by have := unhide HXS; have := unhide HPL; have := (unhide HAX).2.1; have := (unhide HBX).2.1; simp; omega) ?_); intro ov8 X8 hr8 hf8 hF8; replace RR := hide ((unhide RR).grow hr8 hf8 hF8); clear hr8 hf8 hF8 HP5; simp only [Act.put, nzA, nzB, nzC])))
                    have RN : Hid (RS w X8 ov8 (diffT bs ns (i + 1)) []) := hide (by have h9 := RS.left (L := []) (unhide RR); rw [unhide HDT]; simpa [chgL, h1, h2, h3] using h9)
                    have HD2 : Hid ((diffT bs ns (i + 1)).length ≤ 1203 * (i + 1)) := hide (by have h9 := unhide HDT2; have := unhide HDL; omega)
                    clear RR
                    go_roundg (ns.length - (i + 1))
                    case measure => have := unhide HLT; omega
                    case rel => exact ⟨i + 1, by go_num, by have := unhide HLT; omega, by omega, unhide HD2, RN⟩
              · go_wp2_with (first | go_skip | ((with_reducible show wpList _ _ _ _ _ _); first | ((refine rd (by rfl) (ex_lenG 22 50 Tryd.underlying22 rfl rfl) ?_); simp only [Act.put, nzA, nzB, nzC]) | ((refine rd (by rfl) (ex_ltI rfl rfl rfl dib) ?_); simp only [Act.put, nzA, nzB, nzC]) | ((refine rd (by rfl) (ex_indexA 22 8 i unSs idSs rfl rfl (unhide HA) rfl (unhide HLT)) ?_); simp only [Act.put, nzA, nzB, nzC]) | ((refine rd (by rfl) (ex_loadR (vs := a.cs AA ac) 50 8 rwS szS rfl rfl (unhide HA2 _ (unhide RR).hq.fr) rfl) ?_); simp only [Act.put, nzA, nzB, nzC]) | ((refine alR 50 (zeroS.cs none 0) (by rfl) rfl (fun w => by kernel_rfl) (Nat.succ_pos _) (show RS w _ _ _ [] from unhide RR) ?_); intro X8 B8 hE8 L8; have hB8 := hide (Nat.le_trans (unhide RR).hq.fr.size (Nat.le_of_eq hE8.symm)); replace RR := hide L8; clear L8 hE8; simp only [Act.put, nzA, nzB, nzC]) | ((refine stRS (vs := a.cs AA ac) 0 50 (by rfl) rfl rfl rfl rfl (shcs_one _ _ _) szS (unhide RR) rfl (by simp [cput, SH.cs, VV.cs, zeroS, zeroV]) (unhide hB8) ?_); intro X9 L9; replace RR := hide L9; clear L9; simp only [Act.put, nzA, nzB, nzC]) | ((refine rd (by rfl) (ex_bZS rfl) ?_); simp only [Act.put, nzA, nzB, nzC]) | ((refine alR 50 (zeroS.cs none 0) (by rfl) rfl (fun w => by kernel_rfl) (Nat.succ_pos _) (unhide RR) ?_); intro X10 B10 hE10 L10; have hB10 := hide (Nat.le_trans (unhide RR).hq.fr.size (Nat.le_of_eq hE10.symm)); replace RR := hide L10; clear L10 hE10; simp only [Act.put, nzA, nzB, nzC]) | ((refine stRS (vs := zeroS.cs none 0) 1 50 (by rfl) rfl rfl rfl rfl (shcs_one _ _ _) szS (unhide RR) rfl (by simp [cput, SH.cs, VV.cs, zeroS, zeroV]) (unhide hB10) ?_); intro X11 L11; replace RR := hide L11; clear L11; simp only [Act.put, nzA, nzB, nzC]) | ((refine rd (by rfl) (ex_indexA 22 8 i unSs idSs rfl rfl (unhide HBe) rfl (unhide HIB)) ?_); simp only [Act.put, nzA, nzB, nzC]) | ((refine rd (by rfl) (ex_loadR (vs := bb.cs BA bc) 50 8 rwS szS rfl rfl (unhide HBE2 _ (unhide RR).hq.fr) rfl) ?_); simp only [Act.put, nzA, nzB, nzC]) | ((refine stRS (vs := bb.cs BA bc) 1 50 (by rfl) rfl rfl rfl rfl (shcs_one _ _ _) szS (unhide RR) rfl (by simp [cput, SH.cs, VV.cs, zeroS, zeroV]) (unhide hB10) ?_); intro X12 L12; replace RR := hide L12; clear L12; simp only [Act.put, nzA, nzB, nzC]) | ((refine rd (by rfl) (ex_addI rfl rfl rfl hw1) ?_); simp only [Act.put, nzA, nzB, nzC]) | ((refine rd (by rfl) (ex_load1 3 Tryd.isAgg3 rfl rfl ((unhide RR).hq.get 0 rfl) rfl) ?_); simp only [Act.put, nzA, nzB, nzC]) | ((refine rd (by rfl) (ex_load1 3 Tryd.isAgg3 rfl rfl ((unhide RR).hq.get 1 rfl) rfl) ?_); simp only [Act.put, nzA, nzB, nzC]) | ((refine rd (by rfl) (ex_loadN (vs := a.p.cs) 36 5 rwV szV rfl rfl ((unhide RR).hq.get 0 rfl) rfl rfl) ?_); simp only [Act.put, nzA, nzB, nzC]) | ((refine rd (by rfl) (ex_load1 4 Tryd.isAgg4 rfl rfl ((unhide RR).hq.get 0 rfl) rfl) ?_); simp only [Act.put, nzA, nzB, nzC]) | ((refine rd (by rfl) (ex_load1 48 Tryd.isAgg48 rfl rfl ((unhide RR).hq.get 0 rfl) rfl) ?_); simp only [Act.put, nzA, nzB, nzC]) | ((refine rd (by rfl) (ex_load1 48 Tryd.isAgg48 rfl rfl ((unhide RR).hq.get 1 rfl) rfl) ?_); simp only [Act.put, nzA, nzB, nzC]) | ((refine rd (by rfl) (ex_loadN (vs := bb.p.cs) 36 5 rwV szV rfl rfl ((unhide RR).hq.get 1 rfl) rfl rfl) ?_); simp only [Act.put, nzA, nzB, nzC]) | ((refine rd (by rfl) (ex_load1 4 Tryd.isAgg4 rfl rfl ((unhide RR).hq.get 1 rfl) rfl) ?_); simp only [Act.put, nzA, nzB, nzC]) | ((refine rd (by rfl) (ex_neI rfl rfl rfl h1) ?_); simp only [Act.put, nzA, nzB, nzC]) | ((refine rd (by rfl) (ex_neB rfl rfl rfl h3) ?_); simp only [Act.put, nzA, nzB, nzC]) | ((refine rd (by rfl) (ex_bClassO ((i : Int) + 1) a rfl rfl rfl rfl) ?_); simp only [Act.put, nzA, nzB, nzC]) | ((refine rd (by rfl) (ex_bProtoO ((i : Int) + 1) a rfl rfl rfl rfl) ?_); simp only [Act.put, nzA, nzB, nzC]) | ((refine rd (by rfl) (ex_bExtO ((i : Int) + 1) a rfl rfl rfl rfl) ?_); simp only [Act.put, nzA, nzB, nzC]) | ((refine bldR (classL ((i : Int) + 1) a) (by rfl) rfl rfl (unhide RR) ?_); intro X3 B3 L3 hP3; have HP3 := hide hP3; replace RR := hide L3; clear L3 hP3; simp only [Act.put, nzA, nzB, nzC]) | ((refine bldR (protoL ((i : Int) + 1) a) (by rfl) rfl rfl (unhide RR) ?_); intro X3 B3 L3 hP3; have HP3 := hide hP3; replace RR := hide L3; clear L3 hP3; simp only [Act.put, nzA, nzB, nzC]) | ((refine bldR (extL ((i : Int) + 1) a) (by rfl) rfl rfl (unhide RR) ?_); intro X3 B3 L3 hP3; have HP3 := hide hP3; replace RR := hide L3; clear L3 hP3; simp only [Act.put, nzA, nzB, nzC]) | ((refine appRW (ds := [_]) rfl rfl rfl rfl (unhide RR).rw (unhide HP3) (by have := unhide HXS; simp; omega) ?_); intro ov7 X7 hr7 hf7 hF7; replace RR := hide ((unhide RR).grow hr7 hf7 hF7); clear hr7 hf7 hF7 HP3; simp only [Act.put, nzA, nzB, nzC])))
                refine (unhide HEQ _).mono ?_
                rintro e Y6 ⟨rfl, hY6⟩
                replace RR := hide ((unhide RR).on hY6)
                clear hY6
                cases e2
                · cases e3
                  · go_wp2_with (first | go_skip | ((with_reducible show wpList _ _ _ _ _ _); first | ((refine rd (by rfl) (ex_lenG 22 50 Tryd.underlying22 rfl rfl) ?_); simp only [Act.put, nzA, nzB, nzC]) | ((refine rd (by rfl) (ex_ltI rfl rfl rfl dib) ?_); simp only [Act.put, nzA, nzB, nzC]) | ((refine rd (by rfl) (ex_indexA 22 8 i unSs idSs rfl rfl (unhide HA) rfl (unhide HLT)) ?_); simp only [Act.put, nzA, nzB, nzC]) | ((refine rd (by rfl) (ex_loadR (vs := a.cs AA ac) 50 8 rwS szS rfl rfl (unhide HA2 _ (unhide RR).hq.fr) rfl) ?_); simp only [Act.put, nzA, nzB, nzC]) | ((refine alR 50 (zeroS.cs none 0) (by rfl) rfl (fun w => by kernel_rfl) (Nat.succ_pos _) (show RS w _ _ _ [] from unhide RR) ?_); intro X8 B8 hE8 L8; have hB8 := hide (Nat.le_trans (unhide RR).hq.fr.size (Nat.le_of_eq hE8.symm)); replace RR := hide L8; clear L8 hE8; simp only [Act.put, nzA, nzB, nzC]) | ((refine stRS (vs := a.cs AA ac) 0 50 (by rfl) rfl rfl rfl rfl (shcs_one _ _ _) szS (unhide RR) rfl (by simp [cput, SH.cs, VV.cs, zeroS, zeroV]) (unhide hB8) ?_); intro X9 L9; replace RR := hide L9; clear L9; simp only [Act.put, nzA, nzB, nzC]) | ((refine rd (by rfl) (ex_bZS rfl) ?_); simp only [Act.put, nzA, nzB, nzC]) | ((refine alR 50 (zeroS.cs none 0) (by rfl) rfl (fun w => by kernel_rfl) (Nat.succ_pos _) (unhide RR) ?_); intro X10 B10 hE10 L10; have hB10 := hide (Nat.le_trans (unhide RR).hq.fr.size (Nat.le_of_eq hE10.symm)); replace RR := hide L10; clear L10 hE10; simp only [Act.put, nzA, nzB, nzC]) | ((refine stRS (vs := zeroS.cs none 0) 1 50 (by rfl) rfl rfl rfl rfl (shcs_one _ _ _) szS (unhide RR) rfl (by simp [cput, SH.cs, VV.cs, zeroS, zeroV]) (unhide hB10) ?_); intro X11 L11; replace RR := hide L11; clear L11; simp only [Act.put, nzA, nzB, nzC]) | ((refine rd (by rfl) (ex_indexA 22 8 i unSs idSs rfl rfl (unhide HBe) rfl (unhide HIB)) ?_); simp only [Act.put, nzA, nzB, nzC]) | ((refine rd (by rfl) (ex_loadR (vs := bb.cs BA bc) 50 8 rwS szS rfl rfl (unhide HBE2 _ (unhide RR).hq.fr) rfl) ?_); simp only [Act.put, nzA, nzB, nzC]) | ((refine stRS (vs := bb.cs BA bc) 1 50 (by rfl) rfl rfl rfl rfl (shcs_one _ _ _) szS (unhide RR) rfl (by simp [cput, SH.cs, VV.cs, zeroS, zeroV]) (unhide hB10) ?_); intro X12 L12; replace RR := hide L12; clear L12; simp only [Act.put, nzA, nzB, nzC]) | ((refine rd (by rfl) (ex_addI rfl rfl rfl hw1) ?_); simp only [Act.put, nzA, nzB, nzC]) | ((refine rd (by rfl) (ex_load1 3 Tryd.isAgg3 rfl rfl ((unhide RR).hq.get 0 rfl) rfl) ?_); simp only [Act.put, nzA, nzB, nzC]) | ((refine rd (by rfl) (ex_load1 3 Tryd.isAgg3 rfl rfl ((unhide RR).hq.get 1 rfl) rfl) ?_); simp only [Act.put, nzA, nzB, nzC]) | ((refine rd (by rfl) (ex_loadN (vs := a.p.cs) 36 5 rwV szV rfl rfl ((unhide RR).hq.get 0 rfl) rfl rfl) ?_); simp only [Act.put, nzA, nzB, nzC]) | ((refine rd (by rfl) (ex_load1 4 Tryd.isAgg4 rfl rfl ((unhide RR).hq.get 0 rfl) rfl) ?_); simp only [Act.put, nzA, nzB, nzC]) | ((refine rd (by rfl) (ex_load1 48 Tryd.isAgg48 rfl rfl ((unhide RR).hq.get 0 rfl) rfl) ?_); simp only [Act.put, nzA, nzB, nzC]) | ((refine rd (by rfl) (ex_load1 48 Tryd.isAgg48 rfl rfl ((unhide RR).hq.get 1 rfl) rfl) ?_); simp only [Act.put, nzA, nzB, nzC]) | ((refine rd (by rfl) (ex_loadN (vs := bb.p.cs) 36 5 rwV szV rfl rfl ((unhide RR).hq.get 1 rfl) rfl rfl) ?_); simp only [Act.put, nzA, nzB, nzC]) | ((refine rd (by rfl) (ex_load1 4 Tryd.isAgg4 rfl rfl ((unhide RR).hq.get 1 rfl) rfl) ?_); simp only [Act.put, nzA, nzB, nzC]) | ((refine rd (by rfl) (ex_neI rfl rfl rfl h1) ?_); simp only [Act.put, nzA, nzB, nzC]) | ((refine rd (by rfl) (ex_neB rfl rfl rfl h3) ?_); simp only [Act.put, nzA, nzB, nzC]) | ((refine rd (by rfl) (ex_bClassO ((i : Int) + 1) a rfl rfl rfl rfl) ?_); simp only [Act.put, nzA, nzB, nzC]) | ((refine rd (by rfl) (ex_bProtoO ((i : Int) + 1) a rfl rfl rfl rfl) ?_); simp only [Act.put, nzA, nzB, nzC]) | ((refine rd (by rfl) (ex_bExtO ((i : Int) + 1) a rfl rfl rfl rfl) ?_); simp only [Act.put, nzA, nzB, nzC]) | ((refine bldR (classL ((i : Int) + 1) a) (by rfl) rfl rfl (unhide RR) ?_); intro X3 B3 L3 hP3; have HP3 := hide hP3; replace RR := hide L3; clear L3 hP3; simp only [Act.put, nzA, nzB, nzC]) | ((refine bldR (protoL ((i : Int) + 1) a) (by rfl) rfl rfl (unhide RR) ?_); intro X3 B3 L3 hP3; have HP3 := hide hP3; replace RR := hide L3; clear L3 hP3; simp only [Act.put, nzA, nzB, nzC]) | ((refine bldR (extL ((i : Int) + 1) a) (by rfl) rfl rfl (unhide RR) ?_); intro X3 B3 L3 hP3; have HP3 := hide hP3; replace RR := hide L3; clear L3 hP3; simp only [Act.put, nzA, nzB, nzC]) | ((refine appRW (ds := [_]) rfl rfl rfl rfl (unhide RR).rw (unhide HP3) (by have := unhide HXS; simp; omega) ?_); intro ov7 X7 hr7 hf7 hF7; replace RR := hide ((unhide RR).grow hr7 hf7 hF7); clear hr7 hf7 hF7 HP3; simp only [Act.put, nzA, nzB, nzC])))
                    have hpr := refProps_any ((i : Int) + 1) bb.ps a.ps BA AA bc ac _ ((unhide HBX).2.2.1.fr (unhide RR).hq.fr) ((unhide HAX).2.2.1.fr (unhide RR).hq.fr) (unhide HAX).2.2.2.1 (unhide HAX).2.2.2.2 ((unhide HBX).2.1) (unhide HAX).2.1
                    refine hpr.mono ?_
                    clear hpr
                    rintro e Y5 ⟨pv, n, at_, rfl, hkn, hks, hrw⟩
                    rw [props_same ((i : Int) + 1) (unhide HBX).2.2.2 hkn hks] at hrw
                    have HP5 := hide hrw.1
                    replace RR := hide ((unhide RR).on hrw.2.below)
                    have HPL : Hid ((propsL ((i : Int) + 1) bb.ps a.ps).length ≤ 1200) := hide (by have h9 := propsL_len ((i : Int) + 1) bb.ps a.ps; have := (unhide HAX).2.1; have := (unhide HBX).2.1; omega)
                    clear hkn hks hrw
                    go_wp2_with (first | go_skip | ((with_reducible show wpList _ _ _ _ _ _); first | ((refine appRW (ds := propsL ((i : Int) + 1) bb.ps a.ps) rfl rfl rfl rfl (unhide RR).rw (unhide HP5) (by have := unhide HXS; have := unhide HPL; have := (unhide HAX).2.1; have := (unhide HBX).2.1; simp; omega) ?_); intro ov8 X8 hr8 hf8 hF8; replace RR := hide ((unhide RR).grow hr8 hf8 hF8); clear hr8 hf8 hF8 HP5; simp only [Act.put, nzA, nzB, nzC])))
                    have RN : Hid (RS w X8 ov8 (diffT bs ns (i + 1)) []) := hide (by have h9 := RS.left (L := []) (unhide RR); rw [unhide HDT]; simpa [chgL, h1, h2, h3] using h9)
                    have HD2 : Hid ((diffT bs ns (i + 1)).length ≤ 1203 * (i + 1)) := hide (by have h9 := unhide HDT2; have := unhide HDL; omega)
                    clear RR
                    go_roundg (ns.length - (i + 1))
                    case measure => have := unhide HLT; omega
                    case rel => exact ⟨i + 1, by go_num, by have := unhide HLT; omega, by omega, unhide HD2, RN⟩
                  · go_wp2_with (first | go_skip | ((with_reducible show wpList _ _ _ _ _ _); first | ((refine rd (by rfl) (ex_lenG 22 50 Tryd.underlying22 rfl rfl) ?_); simp only [Act.put, nzA, nzB, nzC]) | ((refine rd (by rfl) (ex_ltI rfl rfl rfl dib) ?_); simp only [Act.put, nzA, nzB, nzC]) | ((refine rd (by rfl) (ex_indexA 22 8 i unSs idSs rfl rfl (unhide HA) rfl (unhide HLT)) ?_); simp only [Act.put, nzA, nzB, nzC]) | ((refine rd (by rfl) (ex_loadR (vs := a.cs AA ac) 50 8 rwS szS rfl rfl (unhide HA2 _ (unhide RR).hq.fr) rfl) ?_); simp only [Act.put, nzA, nzB, nzC]) | ((refine alR 50 (zeroS.cs none 0) (by rfl) rfl (fun w => by kernel_rfl) (Nat.succ_pos _) (show RS w _ _ _ [] from unhide RR) ?_); intro X8 B8 hE8 L8; have hB8 := hide (Nat.le_trans (unhide RR).hq.fr.size (Nat.le_of_eq hE8.symm)); replace RR := hide L8; clear L8 hE8; simp only [Act.put, nzA, nzB, nzC]) | ((refine stRS (vs := a.cs AA ac) 0 50 (by rfl) rfl rfl rfl rfl (shcs_one _ _ _) szS (unhide RR) rfl (by simp [cput, SH.cs, VV.cs, zeroS, zeroV]) (unhide hB8) ?_); intro X9 L9; replace RR := hide L9; clear L9; simp only [Act.put, nzA, nzB, nzC]) | ((refine rd (by rfl) (ex_bZS rfl) ?_); simp only [Act.put, nzA, nzB, nzC]) | ((refine alR 50 (zeroS.cs none 0) (by rfl) rfl (fun w => by kernel_rfl) (Nat.succ_pos _) (unhide RR) ?_); intro X10 B10 hE10 L10; have hB10 := hide (Nat.le_trans (unhide RR).hq.fr.size (Nat.le_of_eq hE10.symm)); replace RR := hide L10; clear L10 hE10; simp only [Act.put, nzA, nzB, nzC]) | ((refine stRS (vs := zeroS.cs none 0) 1 50 (by rfl) rfl rfl rfl rfl (shcs_one _ _ _) szS (unhide RR) rfl (by simp [cput, SH.cs, VV.cs, zeroS, zeroV]) (unhide hB10) ?_); intro X11 L11; replace RR := hide L11; clear L11; simp only [Act.put, nzA, nzB, nzC]) | ((refine rd (by rfl) (ex_indexA 22 8 i unSs idSs rfl rfl (unhide HBe) rfl (unhide HIB)) ?_); simp only [Act.put, nzA, nzB, nzC]) | ((refine rd (by rfl) (ex_loadR (vs := bb.cs BA bc) 50 8 rwS szS rfl rfl (unhide HBE2 _ (unhide RR).hq.fr) rfl) ?_); simp only [Act.put, nzA, nzB, nzC]) | ((refine stRS (vs := bb.cs BA bc) 1 50 (by rfl) rfl rfl rfl rfl (shcs_one _ _ _) szS (unhide RR) rfl (by simp [cput, SH.cs, VV.cs, zeroS, zeroV]) (unhide hB10) ?_); intro X12 L12; replace RR := hide L12; clear L12; simp only [Act.put, nzA, nzB, nzC]) | ((refine rd (by rfl) (ex_addI rfl rfl rfl hw1) ?_); simp only [Act.put, nzA, nzB, nzC]) | ((refine rd (by rfl) (ex_load1 3 Tryd.isAgg3 rfl rfl ((unhide RR).hq.get 0 rfl) rfl) ?_); simp only [Act.put, nzA, nzB, nzC]) | ((refine rd (by rfl) (ex_load1 3 Tryd.isAgg3 rfl rfl ((unhide RR).hq.get 1 rfl) rfl) ?_); simp only [Act.put, nzA, nzB, nzC]) | ((refine rd (by rfl) (ex_loadN (vs := a.p.cs) 36 5 rwV szV rfl rfl ((unhide RR).hq.get 0 rfl) rfl rfl) ?_); simp only [Act.put, nzA, nzB, nzC]) | ((refine rd (by rfl) (ex_load1 4 Tryd.isAgg4 rfl rfl ((unhide RR).hq.get 0 rfl) rfl) ?_); simp only [Act.put, nzA, nzB, nzC]) | ((refine rd (by rfl) (ex_load1 48 Tryd.isAgg48 rfl rfl ((unhide RR).hq.get 0 rfl) rfl) ?_); simp only [Act.put, nzA, nzB, nzC]) | ((refine rd (by rfl) (ex_load1 48 Tryd.isAgg48 rfl rfl ((unhide RR).hq.get 1 rfl) rfl) ?_); simp only [Act.put, nzA, nzB, nzC]) | ((refine rd (by rfl) (ex_loadN (vs := bb.p.cs) 36 5 rwV szV rfl rfl ((unhide RR).hq.get 1 rfl) rfl rfl) ?_); simp only [Act.put, nzA, nzB, nzC]) | ((refine rd (by rfl) (ex_load1 4 Tryd.isAgg4 rfl rfl ((unhide RR).hq.get 1 rfl) rfl) ?_); simp only [Act.put, nzA, nzB, nzC]) | ((refine rd (by rfl) (ex_neI rfl rfl rfl h1) ?_); simp only [Act.put, nzA, nzB, nzC]) | ((refine rd (by rfl) (ex_neB rfl rfl rfl h3) ?_); simp only [Act.put, nzA, nzB, nzC]) | ((refine rd (by rfl) (ex_bClassO ((i : Int) + 1) a rfl rfl rfl rfl) ?_); simp only [Act.put, nzA, nzB, nzC]) | ((refine rd (by rfl) (ex_bProtoO ((i : Int) + 1) a rfl rfl rfl rfl) ?_); simp only [Act.put, nzA, nzB, nzC]) | ((refine rd (by rfl) (ex_bExtO ((i : Int) + 1) a rfl rfl rfl rfl) ?_); simp only [Act.put, nzA, nzB, nzC]) | ((refine bldR (classL ((i : Int) + 1) a) (by rfl) rfl rfl (unhide RR) ?_); intro X3 B3 L3 hP3; have HP3 := hide hP3; replace RR := hide L3; clear L3 hP3; simp only [Act.put, nzA, nzB, nzC]) | ((refine bldR (protoL ((i : Int) + 1) a) (by rfl) rfl rfl (unhide RR) ?_); intro X3 B3 L3 hP3; have HP3 := hide hP3; replace RR := hide L3; clear L3 hP3; simp only [Act.put, nzA, nzB, nzC]) | ((refine bldR (extL ((i : Int) + 1) a) (by rfl) rfl rfl (unhide RR) ?_); intro X3 B3 L3 hP3; have HP3 := hide hP3; replace RR := hide L3; clear L3 hP3; simp only [Act.put, nzA, nzB, nzC]) | ((refine appRW (ds := [_]) rfl rfl rfl rfl (unhide RR).rw (unhide HP3) (by have := unhide HXS; simp; omega) ?_); intro ov7 X7 hr7 hf7 hF7; replace RR := hide ((unhide RR).grow hr7 hf7 hF7); clear hr7 hf7 hF7 HP3; simp only [Act.put, nzA, nzB, nzC])))
                    have hpr := refProps_any ((i : Int) + 1) bb.ps a.ps BA AA bc ac _ ((unhide HBX).2.2.1.fr (unhide RR).hq.fr) ((unhide HAX).2.2.1.fr (unhide RR).hq.fr) (unhide HAX).2.2.2.1 (unhide HAX).2.2.2.2 ((unhide HBX).2.1) (unhide HAX).2.1
                    refine hpr.mono ?_
                    clear hpr
                    rintro e Y5 ⟨pv, n, at_, rfl, hkn, hks, hrw⟩
                    rw [props_same ((i : Int) + 1) (unhide HBX).2.2.2 hkn hks] at hrw
                    have HP5 := hide hrw.1
                    replace RR := hide ((unhide RR).on hrw.2.below)
                    have HPL : Hid ((propsL ((i : Int) + 1) bb.ps a.ps).length ≤ 1200) := hide (by have h9 := propsL_len ((i : Int) + 1) bb.ps a.ps; have := (unhide HAX).2.1; have := (unhide HBX).2.1; omega)
                    clear hkn hks hrw
                    go_wp2_with (first | go_skip | ((with_reducible show wpList _ _ _ _ _ _); first | ((refine appRW (ds := propsL ((i : Int) + 1) bb.ps a.ps) rfl rfl rfl rfl (unhide RR).rw (unhide HP5) (by have := unhide HXS; have := unhide HPL; have := (unhide HAX).2.1; have := (unhide HBX).2.1; simp; omega) ?_); intro ov8 X8 hr8 hf8 hF8; replace RR := hide ((unhide RR).grow hr8 hf8 hF8); clear hr8 hf8 hF8 HP5; simp only [Act.put, nzA, nzB, nzC])))
                    have RN : Hid (RS w X8 ov8 (diffT bs ns (i + 1)) []) := hide (by have h9 := RS.left (L := []) (unhide RR); rw [unhide HDT]; simpa [chgL, h1, h2, h3] using h9)
                    have HD2 : Hid ((diffT bs ns (i + 1)).length ≤ 1203 * (i + 1)) := hide (by have h9 := unhide HDT2; have := unhide HDL; omega)
                    clear RR
                    go_roundg (ns.length - (i + 1))
                    case measure => have := unhide HLT; omega
                    case rel => exact ⟨i + 1, by go_num, by have := unhide HLT; omega, by omega, unhide HD2, RN⟩
                · cases e3
                  · go_wp2_with (first | go_skip | ((with_reducible show wpList _ _ _ _ _ _); first | ((refine rd (by rfl) (ex_lenG 22 50 Tryd.underlying22 rfl rfl) ?_); simp only [Act.put, nzA, nzB, nzC]) | ((refine rd (by rfl) (ex_ltI rfl rfl rfl dib) ?_); simp only [Act.put, nzA, nzB, nzC]) | ((refine rd (by rfl) (ex_indexA 22 8 i unSs idSs rfl rfl (unhide HA) rfl (unhide HLT)) ?_); simp only [Act.put, nzA, nzB, nzC]) | ((refine rd (by rfl) (ex_loadR (vs := a.cs AA ac) 50 8 rwS szS rfl rfl (unhide HA2 _ (unhide RR).hq.fr) rfl) ?_); simp only [Act.put, nzA, nzB, nzC]) | ((refine alR 50 (zeroS.cs none 0) (by rfl) rfl (fun w => by kernel_rfl) (Nat.succ_pos _) (show RS w _ _ _ [] from unhide RR) ?_); intro X8 B8 hE8 L8; have hB8 := hide (Nat.le_trans (unhide RR).hq.fr.size (Nat.le_of_eq hE8.symm)); replace RR := hide L8; clear L8 hE8; simp only [Act.put, nzA, nzB, nzC]) | ((refine stRS (vs := a.cs AA ac) 0 50 (by rfl) rfl rfl rfl rfl (shcs_one _ _ _) szS (unhide RR) rfl (by simp [cput, SH.cs, VV.cs, zeroS, zeroV]) (unhide hB8) ?_); intro X9 L9; replace RR := hide L9; clear L9; simp only [Act.put, nzA, nzB, nzC]) | ((refine rd (by rfl) (ex_bZS rfl) ?_); simp only [Act.put, nzA, nzB, nzC]) | ((refine alR 50 (zeroS.cs none 0) (by rfl) rfl (fun w => by kernel_rfl) (Nat.succ_pos _) (unhide RR) ?_); intro X10 B10 hE10 L10; have hB10 := hide (Nat.le_trans (unhide RR).hq.fr.size (Nat.le_of_eq hE10.symm)); replace RR := hide L10; clear L10 hE10; simp only [Act.put, nzA, nzB, nzC]) | ((refine stRS (vs := zeroS.cs none 0) 1 50 (by rfl) rfl rfl rfl rfl (shcs_one _ _ _) szS (unhide RR) rfl (by simp [cput, SH.cs, VV.cs, zeroS, zeroV]) (unhide hB10) ?_); intro X11 L11; replace RR := hide L11; clear L11; simp only [Act.put, nzA, nzB, nzC]) | ((refine rd (by rfl) (ex_indexA 22 8 i unSs idSs rfl rfl (unhide HBe) rfl (unhide HIB)) ?_); simp only [Act.put, nzA, nzB, nzC]) | ((refine rd (by rfl) (ex_loadR (vs := bb.cs BA bc) 50 8 rwS szS rfl rfl (unhide HBE2 _ (unhide RR).hq.fr) rfl) ?_); simp only [Act.put, nzA, nzB, nzC]) | ((refine stRS (vs := bb.cs BA bc) 1 50 (by rfl) rfl rfl rfl rfl (shcs_one _ _ _) szS (unhide RR) rfl (by simp [cput, SH.cs, VV.cs, zeroS, zeroV]) (unhide hB10) ?_); intro X12 L12; replace RR := hide L12; clear L12; simp only [Act.put, nzA, nzB, nzC]) | ((refine rd (by rfl) (ex_addI rfl rfl rfl hw1) ?_); simp only [Act.put, nzA, nzB, nzC]) | ((refine rd (by rfl) (ex_load1 3 Tryd.isAgg3 rfl rfl ((unhide RR).hq.get 0 rfl) rfl) ?_); simp only [Act.put, nzA, nzB, nzC]) | ((refine rd (by rfl) (ex_load1 3 Tryd.isAgg3 rfl rfl ((unhide RR).hq.get 1 rfl) rfl) ?_); simp only [Act.put, nzA, nzB, nzC]) | ((refine rd (by rfl) (ex_loadN (vs := a.p.cs) 36 5 rwV szV rfl rfl ((unhide RR).hq.get 0 rfl) rfl rfl) ?_); simp only [Act.put, nzA, nzB, nzC]) | ((refine rd (by rfl) (ex_load1 4 Tryd.isAgg4 rfl rfl ((unhide RR).hq.get 0 rfl) rfl) ?_); simp only [Act.put, nzA, nzB, nzC]) | ((refine rd (by rfl) (ex_load1 48 Tryd.isAgg48 rfl rfl ((unhide RR).hq.get 0 rfl) rfl) ?_); simp only [Act.put, nzA, nzB, nzC]) | ((refine rd (by rfl) (ex_load1 48 Tryd.isAgg48 rfl rfl ((unhide RR).hq.get 1 rfl) rfl) ?_); simp only [Act.put, nzA, nzB, nzC]) | ((refine rd (by rfl) (ex_loadN (vs := bb.p.cs) 36 5 rwV szV rfl rfl ((unhide RR).hq.get 1 rfl) rfl rfl) ?_); simp only [Act.put, nzA, nzB, nzC]) | ((refine rd (by rfl) (ex_load1 4 Tryd.isAgg4 rfl rfl ((unhide RR).hq.get 1 rfl) rfl) ?_); simp only [Act.put, nzA, nzB, nzC]) | ((refine rd (by rfl) (ex_neI rfl rfl rfl h1) ?_); simp only [Act.put, nzA, nzB, nzC]) | ((refine rd (by rfl) (ex_neB rfl rfl rfl h3) ?_); simp only [Act.put, nzA, nzB, nzC]) | ((refine rd (by rfl) (ex_bClassO ((i : Int) + 1) a rfl rfl rfl rfl) ?_); simp only [Act.put, nzA, nzB, nzC]) | ((refine rd (by rfl) (ex_bProtoO ((i : Int) + 1) a rfl rfl rfl rfl) ?_); simp only [Act.put, nzA, nzB, nzC]) | ((refine rd (by rfl) (ex_bExtO ((i : Int) + 1) a rfl rfl rfl rfl) ?_); simp only [Act.put, nzA, nzB, nzC]) | ((refine bldR (classL ((i : Int) + 1) a) (by rfl) rfl rfl (unhide RR) ?_); intro X3 B3 L3 hP3; have HP3 := hide hP3; replace RR := hide L3; clear L3 hP3; simp only [Act.put, nzA, nzB, nzC]) | ((refine bldR (protoL ((i : Int) + 1) a) (by rfl) rfl rfl (unhide RR) ?_); intro X3 B3 L3 hP3; have HP3 := hide hP3; replace RR := hide L3; clear L3 hP3; simp only [Act.put, nzA, nzB, nzC]) | ((refine bldR (extL ((i : Int) + 1) a) (by rfl) rfl rfl (unhide RR) ?_); intro X3 B3 L3 hP3; have HP3 := hide hP3; replace RR := hide L3; clear L3 hP3; simp only [Act.put, nzA, nzB, nzC]) | ((refine appRW (ds := [_]) rfl rfl rfl rfl (unhide RR).rw (unhide HP3) (by have := unhide HXS; simp; omega) ?_); intro ov7 X7 hr7 hf7 hF7; replace RR := hide ((unhide RR).grow hr7 hf7 hF7); clear hr7 hf7 hF7 HP3; simp only [Act.put, nzA, nzB, nzC])))
                    have hpr := refProps_any ((i : Int) + 1) bb.ps a.ps BA AA bc ac _ ((unhide HBX).2.2.1.fr (unhide RR).hq.fr) ((unhide HAX).2.2.1.fr (unhide RR).hq.fr) (unhide HAX).2.2.2.1 (unhide HAX).2.2.2.2 ((unhide HBX).2.1) (unhide HAX).2.1
                    refine hpr.mono ?_
                    clear hpr
                    rintro e Y5 ⟨pv, n, at_, rfl, hkn, hks, hrw⟩
                    rw [props_same ((i : Int) + 1) (unhide HBX).2.2.2 hkn hks] at hrw
                    have HP5 := hide hrw.1
                    replace RR := hide ((unhide RR).on hrw.2.below)
                    have HPL : Hid ((propsL ((i : Int) + 1) bb.ps a.ps).length ≤ 1200) := hide (by have h9 := propsL_len ((i : Int) + 1) bb.ps a.ps; have := (unhide HAX).2.1; have := (unhide HBX).2.1; omega)
                    clear hkn hks hrw
                    go_wp2_with (first | go_skip | ((with_reducible show wpList _ _ _ _ _ _); first | ((refine appRW (ds := propsL ((i : Int) + 1) bb.ps a.ps) rfl rfl rfl rfl (unhide RR).rw (unhide HP5) (by have := unhide HXS; have := unhide HPL; have := (unhide HAX).2.1; have := (unhide HBX).2.1; simp; omega) ?_); intro ov8 X8 hr8 hf8 hF8; replace RR := hide ((unhide RR).grow hr8 hf8 hF8); clear hr8 hf8 hF8 HP5; simp only [Act.put, nzA, nzB, nzC])))
                    have RN : Hid (RS w X8 ov8 (diffT bs ns (i + 1)) []) := hide (by have h9 := RS.left (L := []) (unhide RR); rw [unhide HDT]; simpa [chgL, h1, h2, h3] using h9)
                    have HD2 : Hid ((diffT bs ns (i + 1)).length ≤ 1203 * (i + 1)) := hide (by have h9 := unhide HDT2; have := unhide HDL; omega)
                    clear RR
                    go_roundg (ns.length - (i + 1))
                    case measure => have := unhide HLT; omega
                    case rel => exact ⟨i + 1, by go_num, by have := unhide HLT; omega, by omega, unhide HD2, RN⟩
                  · go_wp2_with (first | go_skip | ((with_reducible show wpList _ _ _ _ _ _); first | ((refine rd (by rfl) (ex_lenG 22 50 Tryd.underlying22 rfl rfl) ?_); simp only [Act.put, nzA, nzB, nzC]) | ((refine rd (by rfl) (ex_ltI rfl rfl rfl dib) ?_); simp only [Act.put, nzA, nzB, nzC]) | ((refine rd (by rfl) (ex_indexA 22 8 i unSs idSs rfl rfl (unhide HA) rfl (unhide HLT)) ?_); simp only [Act.put, nzA, nzB, nzC]) | ((refine rd (by rfl) (ex_loadR (vs := a.cs AA ac) 50 8 rwS szS rfl rfl (unhide HA2 _ (unhide RR).hq.fr) rfl) ?_); simp only [Act.put, nzA, nzB, nzC]) | ((refine alR 50 (zeroS.cs none 0) (by rfl) rfl (fun w => by kernel_rfl) (Nat.succ_pos _) (show RS w _ _ _ [] from unhide RR) ?_); intro X8 B8 hE8 L8; have hB8 := hide (Nat.le_trans (unhide RR).hq.fr.size (Nat.le_of_eq hE8.symm)); replace RR := hide L8; clear L8 hE8; simp only [Act.put, nzA, nzB, nzC]) | ((refine stRS (vs := a.cs AA ac) 0 50 (by rfl) rfl rfl rfl rfl (shcs_one _ _ _) szS (unhide RR) rfl (by simp [cput, SH.cs, VV.cs, zeroS, zeroV]) (unhide hB8) ?_); intro X9 L9; replace RR := hide L9; clear L9; simp only [Act.put, nzA, nzB, nzC]) | ((refine rd (by rfl) (ex_bZS rfl) ?_); simp only [Act.put, nzA, nzB, nzC]) | ((refine alR 50 (zeroS.cs none 0) (by rfl) rfl (fun w => by kernel_rfl) (Nat.succ_pos _) (unhide RR) ?_); intro X10 B10 hE10 L10; have hB10 := hide (Nat.le_trans (unhide RR).hq.fr.size (Nat.le_of_eq hE10.symm)); replace RR := hide L10; clear L10 hE10; simp only [Act.put, nzA, nzB, nzC]) | ((refine stRS (vs := zeroS.cs none 0) 1 50 (by rfl) rfl rfl rfl rfl (shcs_one _ _ _) szS (unhide RR) rfl (by simp [cput, SH.cs, VV.cs, zeroS, zeroV]) (unhide hB10) ?_); intro X11 L11; replace RR := hide L11; clear L11; simp only [Act.put, nzA, nzB, nzC]) | ((refine rd (by rfl) (ex_indexA 22 8 i unSs idSs rfl rfl (unhide HBe) rfl (unhide HIB)) ?_); simp only [Act.put, nzA, nzB, nzC]) | ((refine rd (by rfl) (ex_loadR (vs := bb.cs BA bc) 50 8 rwS szS rfl rfl (unhide HBE2 _ (unhide RR).hq.fr) rfl) ?_); simp only [Act.put, nzA, nzB, nzC]) | ((refine stRS (vs := bb.cs BA bc) 1 50 (by rfl) rfl rfl rfl rfl (shcs_one _ _ _) szS (unhide RR) rfl (by simp [cput, SH.cs, VV.cs, zeroS, zeroV]) (unhide hB10) ?_); intro X12 L12; replace RR := hide L12; clear L12; simp only [Act.put, nzA, nzB, nzC]) | ((refine rd (by rfl) (ex_addI rfl rfl rfl hw1) ?_); simp only [Act.put, nzA, nzB, nzC]) | ((refine rd (by rfl) (ex_load1 3 Tryd.isAgg3 rfl rfl ((unhide RR).hq.get 0 rfl) rfl) ?_); simp only [Act.put, nzA, nzB, nzC]) | ((refine rd (by rfl) (ex_load1 3 Tryd.isAgg3 rfl rfl ((unhide RR).hq.get 1 rfl) rfl) ?_); simp only [Act.put, nzA, nzB, nzC]) | ((refine rd (by rfl) (ex_loadN (vs := a.p.cs) 36 5 rwV szV rfl rfl ((unhide RR).hq.get 0 rfl) rfl rfl) ?_); simp only [Act.put, nzA, nzB, nzC]) | ((refine rd (by rfl) (ex_load1 4 Tryd.isAgg4 rfl rfl ((unhide RR).hq.get 0 rfl) rfl) ?_); simp only [Act.put, nzA, nzB, nzC]) | ((refine rd (by rfl) (ex_load1 48 Tryd.isAgg48 rfl rfl ((unhide RR).hq.get 0 rfl) rfl) ?_); simp only [Act.put, nzA, nzB, nzC]) | ((refine rd (by rfl) (ex_load1 48 Tryd.isAgg48 rfl rfl ((unhide RR).hq.get 1 rfl) rfl) ?_); simp only [Act.put, nzA, nzB, nzC]) | ((refine rd (by rfl) (ex_loadN (vs := bb.p.cs) 36 5 rwV szV rfl rfl ((unhide RR).hq.get 1 rfl) rfl rfl) ?_); simp only [Act.put, nzA, nzB, nzC]) | ((refine rd (by rfl) (ex_load1 4 Tryd.isAgg4 rfl rfl ((unhide RR).hq.get 1 rfl) rfl) ?_); simp only [Act.put, nzA, nzB, nzC]) | ((refine rd (by rfl) (ex_neI rfl rfl rfl h1) ?_); simp only [Act.put, nzA, nzB, nzC]) | ((refine rd (by rfl) (ex_neB rfl rfl rfl h3) ?_); simp only [Act.put, nzA, nzB, nzC]) | ((refine rd (by rfl) (ex_bClassO ((i : Int) + 1) a rfl rfl rfl rfl) ?_); simp only [Act.put, nzA, nzB, nzC]) | ((refine rd (by rfl) (ex_bProtoO ((i : Int) + 1) a rfl rfl rfl rfl) ?_); simp only [Act.put, nzA, nzB, nzC]) | ((refine rd (by rfl) (ex_bExtO ((i : Int) + 1) a rfl rfl rfl rfl) ?_); simp only [Act.put, nzA, nzB, nzC]) | ((refine bldR (classL ((i : Int) + 1) a) (by rfl) rfl rfl (unhide RR) ?_); intro X3 B3 L3 hP3; have HP3 := hide hP3; replace RR := hide L3; clear L3 hP3; simp only [Act.put, nzA, nzB, nzC]) | ((refine bldR (protoL ((i : Int) + 1) a) (by rfl) rfl rfl (unhide RR) ?_); intro X3 B3 L3 hP3; have HP3 := hide hP3; replace RR := hide L3; clear L3 hP3; simp only [Act.put, nzA, nzB, nzC]) | ((refine bldR (extL ((i : Int) + 1) a) (by rfl) rfl rfl (unhide RR) ?_); intro X3 B3 L3 hP3; have HP3 := hide hP3; replace RR := hide L3; clear L3 hP3; simp only [Act.put, nzA, nzB, nzC]) | ((refine appRW (ds := [_]) rfl rfl rfl rfl (unhide RR).rw (unhide HP3) (by have := unhide HXS; simp; omega) ?_); intro ov7 X7 hr7 hf7 hF7; replace RR := hide ((unhide RR).grow hr7 hf7 hF7); clear hr7 hf7 hF7 HP3; simp only [Act.put, nzA, nzB, nzC])))
                    have hpr := refProps_any ((i : Int) + 1) bb.ps a.ps BA AA bc ac _ ((unhide HBX).2.2.1.fr (unhide RR).hq.fr) ((unhide HAX).2.2.1.fr (unhide RR).hq.fr) (unhide HAX).2.2.2.1 (unhide HAX).2.2.2.2 ((unhide HBX).2.1) (unhide HAX).2.1
                    refine hpr.mono ?_
                    clear hpr
                    rintro e Y5 ⟨pv, n, at_, rfl, hkn, hks, hrw⟩
                    rw [props_same ((i : Int) + 1) (unhide HBX).2.2.2 hkn hks] at hrw
                    have HP5 := hide hrw.1
                    replace RR := hide ((unhide RR).on hrw.2.below)
                    have HPL : Hid ((propsL ((i : Int) + 1) bb.ps a.ps).length ≤ 1200) := hide (by have h9 := propsL_len ((i : Int) + 1) bb.ps a.ps; have := (unhide HAX).2.1; have := (unhide HBX).2.1; omega)
                    clear hkn hks hrw
                    go_wp2_with (first | go_skip | ((with_reducible show wpList _ _ _ _ _ _); first | ((refine appRW (ds := propsL ((i : Int) + 1) bb.ps a.ps) rfl rfl rfl rfl (unhide RR).rw (unhide HP5) (by have := unhide HXS; have := unhide HPL; have := (unhide HAX).2.1; have := (unhide HBX).2.1; simp; omega) ?_); intro ov8 X8 hr8 hf8 hF8; replace RR := hide ((unhide RR).grow hr8 hf8 hF8); clear hr8 hf8 hF8 HP5; simp only [Act.put, nzA, nzB, nzC])))
                    have RN : Hid (RS w X8 ov8 (diffT bs ns (i + 1)) []) := hide (by have h9 := RS.left (L := []) (unhide RR); rw [unhide HDT]; simpa [chgL, h1, h2, h3] using h9)
                    have HD2 : Hid ((diffT bs ns (i + 1)).length ≤ 1203 * (i + 1)) := hide (by have h9 := unhide HDT2; have := unhide HDL; omega)
                    clear RR
                    go_roundg (ns.length - (i + 1))
                    case measure => have := unhide HLT; omega
                    case rel => exact ⟨i + 1, by go_num, by have := unhide HLT; omega, by omega, unhide HD2, RN⟩
            · have HDT := hide (diffT_made ha (List.getElem?_eq_none (show bs.length ≤ i by omega)))
              have HDT2 : Hid ((diffT bs ns (i + 1)).length ≤ (diffT bs ns i).length + 1203) := hide (by rw [unhide HDT]; have := (unhide HAX).2.1; simp [madeL]; omega)
              have dib : decide ((i : Int) < (bs.length : Int)) = false := decide_eq_false (by omega)
              clear ha hib
              go_wp2_with (first | go_skip | ((with_reducible show wpList _ _ _ _ _ _); first | ((refine rd (by rfl) (ex_lenG 22 50 Tryd.underlying22 rfl rfl) ?_); simp only [Act.put, nzA, nzB, nzC]) | ((refine rd (by rfl) (ex_ltI rfl rfl rfl dib) ?_); simp only [Act.put, nzA, nzB, nzC]) | ((refine rd (by rfl) (ex_indexA 22 8 i unSs idSs rfl rfl (unhide HA) rfl (unhide HLT)) ?_); simp only [Act.put, nzA, nzB, nzC]) | ((refine rd (by rfl) (ex_loadR (vs := a.cs AA ac) 50 8 rwS szS rfl rfl (unhide HA2 _ (unhide RR).hq.fr) rfl) ?_); simp only [Act.put, nzA, nzB, nzC]) | ((refine alR 50 (zeroS.cs none 0) (by rfl) rfl (fun w => by kernel_rfl) (Nat.succ_pos _) (show RS w _ _ _ [] from unhide RR) ?_); intro X8 B8 hE8 L8; have hB8 := hide (Nat.le_trans (unhide RR).hq.fr.size (Nat.le_of_eq hE8.symm)); replace RR := hide L8; clear L8 hE8; simp only [Act.put, nzA, nzB, nzC]) | ((refine stRS (vs := a.cs AA ac) 0 50 (by rfl) rfl rfl rfl rfl (shcs_one _ _ _) szS (unhide RR) rfl (by simp [cput, SH.cs, VV.cs, zeroS, zeroV]) (unhide hB8) ?_); intro X9 L9; replace RR := hide L9; clear L9; simp only [Act.put, nzA, nzB, nzC]) | ((refine rd (by rfl) (ex_bZS rfl) ?_); simp only [Act.put, nzA, nzB, nzC]) | ((refine alR 50 (zeroS.cs none 0) (by rfl) rfl (fun w => by kernel_rfl) (Nat.succ_pos _) (unhide RR) ?_); intro X10 B10 hE10 L10; have hB10 := hide (Nat.le_trans (unhide RR).hq.fr.size (Nat.le_of_eq hE10.symm)); replace RR := hide L10; clear L10 hE10; simp only [Act.put, nzA, nzB, nzC]) | ((refine stRS (vs := zeroS.cs none 0) 1 50 (by rfl) rfl rfl rfl rfl (shcs_one _ _ _) szS (unhide RR) rfl (by simp [cput, SH.cs, VV.cs, zeroS, zeroV]) (unhide hB10) ?_); intro X11 L11; replace RR := hide L11; clear L11; simp only [Act.put, nzA, nzB, nzC]) | ((refine rd (by rfl) (ex_addI rfl rfl rfl hw1) ?_); simp only [Act.put, nzA, nzB, nzC]) | ((refine rd (by rfl) (ex_load1 3 Tryd.isAgg3 rfl rfl ((unhide RR).hq.get 0 rfl) rfl) ?_); simp only [Act.put, nzA, nzB, nzC]) | ((refine rd (by rfl) (ex_load1 3 Tryd.isAgg3 rfl rfl ((unhide RR).hq.get 1 rfl) rfl) ?_); simp only [Act.put, nzA, nzB, nzC]) | ((refine rd (by rfl) (ex_loadN (vs := a.p.cs) 36 5 rwV szV rfl rfl ((unhide RR).hq.get 0 rfl) rfl rfl) ?_); simp only [Act.put, nzA, nzB, nzC]) | ((refine rd (by rfl) (ex_load1 4 Tryd.isAgg4 rfl rfl ((unhide RR).hq.get 0 rfl) rfl) ?_); simp only [Act.put, nzA, nzB, nzC]) | ((refine rd (by rfl) (ex_load1 48 Tryd.isAgg48 rfl rfl ((unhide RR).hq.get 0 rfl) rfl) ?_); simp only [Act.put, nzA, nzB, nzC]) | ((refine rd (by rfl) (ex_load1 48 Tryd.isAgg48 rfl rfl ((unhide RR).hq.get 1 rfl) rfl) ?_); simp only [Act.put, nzA, nzB, nzC]) | ((refine rd (by rfl) (ex_bMakeO ((i : Int) + 1) a rfl rfl rfl rfl rfl rfl) ?_); simp only [Act.put, nzA, nzB, nzC]) | ((refine bldR (makeL ((i : Int) + 1) a) (by rfl) rfl rfl (unhide RR) ?_); intro X3 B3 L3 hP3; have HP3 := hide hP3; replace RR := hide L3; clear L3 hP3; simp only [Act.put, nzA, nzB, nzC]) | ((refine appRW (ds := [_]) rfl rfl rfl rfl (unhide RR).rw (unhide HP3) (by have := unhide HXS; simp; omega) ?_); intro ov7 X7 hr7 hf7 hF7; replace RR := hide ((unhide RR).grow hr7 hf7 hF7); clear hr7 hf7 hF7 HP3; simp only [Act.put, nzA, nzB, nzC])))
              have hpr := refProps_any ((i : Int) + 1) [] a.ps none AA 0 ac _ (fun j p hp => by simp at hp) ((unhide HAX).2.2.1.fr (unhide RR).hq.fr) (unhide HAX).2.2.2.1 (unhide HAX).2.2.2.2 (by decide) (unhide HAX).2.1
              refine hpr.mono ?_
              clear hpr
              rintro e Y5 ⟨pv, n, at_, rfl, hkn, hks, hrw⟩
              rw [props_same ((i : Int) + 1) keyD_nil hkn hks] at hrw
              have HP5 := hide hrw.1
              replace RR := hide ((unhide RR).on hrw.2.below)
              have HPL : Hid ((propsL ((i : Int) + 1) [] a.ps).length ≤ 1200) := hide (by have h9 := propsL_len ((i : Int) + 1) [] a.ps; have := (unhide HAX).2.1; simp at h9; omega)
              clear hkn hks hrw
              go_wp2_with (first | go_skip | ((with_reducible show wpList _ _ _ _ _ _); first | ((refine appRW (ds := propsL ((i : Int) + 1) [] a.ps) rfl rfl rfl rfl (unhide RR).rw (unhide HP5) (by have := unhide HXS; have := unhide HPL; have := (unhide HAX).2.1; simp; omega) ?_); intro ov8 X8 hr8 hf8 hF8; replace RR := hide ((unhide RR).grow hr8 hf8 hF8); clear hr8 hf8 hF8 HP5; simp only [Act.put, nzA, nzB, nzC])))
              have RN : Hid (RS w X8 ov8 (diffT bs ns (i + 1)) []) := hide (by have h9 := RS.left (L := []) (unhide RR); rw [unhide HDT]; simpa [madeL, propsL_nil] using h9)
              have HD2 : Hid ((diffT bs ns (i + 1)).length ≤ 1203 * (i + 1)) := hide (by have h9 := unhide HDT2; have := unhide HDL; omega)
              clear RR
              go_roundg (ns.length - (i + 1))
              case measure => have := unhide HLT; omega
              case rel => exact ⟨i + 1, by go_num, by have := unhide HLT; omega, by omega, unhide HD2, RN⟩
          · obtain rfl : i = ns.length := by omega
            clear hlt hil hdl
            go_wp2_with (first | go_skip | ((with_reducible show wpList _ _ _ _ _ _); first | ((refine rd (by rfl) (ex_lenG 22 50 Tryd.underlying22 rfl rfl) ?_); simp only [Act.put, nzA, nzB, nzC])))
            go_ret2
            exact ⟨_, 0, _, rfl, (unhide RR).rw, .inr (.inr ⟨unhide HLE, by rw [unhide HTB, unhide HTN]; rfl, rfl, rfl⟩)⟩
      · clear htb
        have HTV := hide htn
        clear htn
        go_wp2_with (first | go_skip | ((with_reducible show wpList _ _ _ _ _ _); first | ((refine rd (by rfl) (ex_lenG 22 50 Tryd.underlying22 rfl rfl) ?_); simp only [Act.put, nzA, nzB, nzC])))
        go_ret2
        exact ⟨.slice none 0 0, 5, [], rfl, RW.nil w _ (unhide LL).fr, .inr (.inl ⟨unhide HLE, by rw [unhide HTV]; simp, rfl, rfl⟩)⟩
    · have HTV := hide htb
      clear htb
      go_wp2_with (first | go_skip | ((with_reducible show wpList _ _ _ _ _ _); first | ((refine rd (by rfl) (ex_lenG 22 50 Tryd.underlying22 rfl rfl) ?_); simp only [Act.put, nzA, nzB, nzC])))
      go_ret2
      exact ⟨.slice none 0 0, 5, [], rfl, RW.nil w _ (unhide LL).fr, .inr (.inl ⟨unhide HLE, by rw [unhide HTV]; simp, rfl, rfl⟩)⟩
end Go.Proofs.YtcflglloopgieaaDoor

/-! Jd -/
namespace Go.Proofs.YtcflglloopgieaaDoor
open Go Go.Proofs Go.Maps Go.RowKit FM
set_option linter.unusedSimpArgs false
set_option linter.unusedVariables false
set_option maxHeartbeats 1000000
section
variable {H : Type} {enc : TypeId × Value → H} {W : World} {base : Nat} {sp : Nat → Bool} {held : Bool} {m : Nat} {x : DataW H × List MemPlace}
set_option maxRecDepth 100000 in
theorem val_str {u : VV} (h : DataW.trod enc Tryd.prog W base sp held m 36 u.cs = some x) (hw : ∀ n ∈ x.1.weights Tryd.prog 36, n ≤ reachBytes) : SV u := by
  obtain ⟨xs, n, _, rfl, hl, hlen, hf⟩ := DataW.trod_struct Tryd.underlying36 h
  have h3 := hf 3 _ rfl
  simp [cellsOf9, VV.cs] at h3 hlen
  obtain ⟨y3, e3⟩ : ∃ y, xs[3]? = some y := ⟨_, List.getElem?_eq_getElem (by omega)⟩
  rw [e3] at h3
  obtain ⟨s, hs, hs1, hy⟩ := cell_string Tryd.underlying9 h3
  obtain rfl : u.s = s := by simpa using hs
  have hm := DataW.weights_mem_each (P := Tryd.prog) (ts := [3, 4, 34, 9, 3]) (ds := xs.map (·.1)) (j := 3) (t := 9) (d := y3.1) rfl (by rw [List.getElem?_map, e3]; rfl) u.s.size (by rw [hy]; simp [DataW.weights])
  have h9 := hw u.s.size (by simpa [DataW.weights, Tryd.underlying36] using hm)
  have := reachBytes_lt
  unfold SV
  omega
set_option maxRecDepth 100000 in
theorem key_str {k : KK} (h : DataW.trod enc Tryd.prog W base sp held m 38 k.cs = some x) (hw : ∀ n ∈ x.1.weights Tryd.prog 38, n ≤ reachBytes) : k.s.size ≤ 281474976710656 := by
  obtain ⟨xs, n, _, rfl, hl, hlen, hf⟩ := DataW.trod_struct Tryd.underlying38 h
  have h3 := hf 0 _ rfl
  simp [cellsOf9, KK.cs] at h3 hlen
  obtain ⟨y3, e3⟩ : ∃ y, xs[0]? = some y := ⟨_, List.getElem?_eq_getElem (by omega)⟩
  rw [e3] at h3
  obtain ⟨s, hs, hs1, hy⟩ := cell_string Tryd.underlying9 h3
  obtain rfl : k.s = s := by simpa using hs
  have hm := DataW.weights_mem_each (P := Tryd.prog) (ts := [9, 3]) (ds := xs.map (·.1)) (j := 0) (t := 9) (d := y3.1) rfl (by rw [List.getElem?_map, e3]; rfl) k.s.size (by rw [hy]; simp [DataW.weights])
  have h9 := hw k.s.size (by simpa [DataW.weights, Tryd.underlying38] using hm)
  have := reachBytes_lt
  omega
set_option maxRecDepth 100000 in
theorem desc_str {d : DD} (h : DataW.trod enc Tryd.prog W base sp held m 41 d.cs = some x) (hw : ∀ n ∈ x.1.weights Tryd.prog 41, n ≤ reachBytes) : SD d := by
  obtain ⟨xs, n, _, rfl, hl, hlen, hf⟩ := DataW.trod_struct Tryd.underlying41 h
  have h0 := hf 0 _ rfl
  have h1 := hf 1 _ rfl
  have h2 := hf 2 _ rfl
  simp [cellsOf24, DD.cs] at h0 h1 h2 hlen
  have g : ∀ j, j < 6 → ∃ y, xs[j]? = some y := fun j hj => ⟨_, List.getElem?_eq_getElem (by omega)⟩
  obtain ⟨y0, e0⟩ := g 0 (by omega)
  obtain ⟨y1, e1⟩ := g 1 (by omega)
  obtain ⟨y2, e2⟩ := g 2 (by omega)
  rw [e0] at h0
  rw [e1] at h1
  rw [e2] at h2
  have hj : ∀ (j : Nat) (y : DataW H × List MemPlace), xs[j]? = some y → j < 3 → ∀ q ∈ y.1.weights Tryd.prog 36, q ≤ reachBytes := fun j y hy hj q hq => hw q (by
    have ht : ([36, 36, 36, 39, 39, 39] : List TypeId)[j]? = some 36 := by
      rcases (by omega : j = 0 ∨ j = 1 ∨ j = 2) with rfl | rfl | rfl <;> rfl
    have hm := DataW.weights_mem_each (P := Tryd.prog) (ts := [36, 36, 36, 39, 39, 39]) (ds := xs.map (·.1)) (j := j) (t := 36) (d := y.1) ht (by rw [List.getElem?_map, hy]; rfl) q hq
    simpa [DataW.weights, Tryd.underlying41] using hm)
  exact ⟨val_str (u := d.v) h0 (hj 0 y0 e0 (by omega)), val_str (u := d.g) h1 (hj 1 y1 e1 (by omega)), val_str (u := d.s) h2 (hj 2 y2 e2 (by omega))⟩
set_option maxRecDepth 100000 in
theorem prop_str {p : PR} (h : DataW.trod enc Tryd.prog W base sp held m 55 p.cs = some x) (hw : ∀ n ∈ x.1.weights Tryd.prog 55, n ≤ reachBytes) : SP p := by
  obtain ⟨xs, n, _, rfl, hl, hlen, hf⟩ := DataW.trod_struct Tryd.underlying55 h
  have h0 := hf 0 _ rfl
  have h1 := hf 1 _ rfl
  simp [cellsOf41, cellsOf44, PR.cs, KK.cs, DD.cs] at h0 h1 hlen
  have g : ∀ j, j < 2 → ∃ y, xs[j]? = some y := fun j hj => ⟨_, List.getElem?_eq_getElem (by omega)⟩
  obtain ⟨y0, e0⟩ := g 0 (by omega)
  obtain ⟨y1, e1⟩ := g 1 (by omega)
  rw [e0] at h0
  rw [e1] at h1
  refine ⟨key_str (k := p.k) h0 (fun q hq => hw q ?_), desc_str (d := p.d) h1 (fun q hq => hw q ?_)⟩
  · have hm := DataW.weights_mem_each (P := Tryd.prog) (ts := [38, 41]) (ds := xs.map (·.1)) (j := 0) (t := 38) (d := y0.1) rfl (by rw [List.getElem?_map, e0]; rfl) q hq
    simpa [DataW.weights, Tryd.underlying55] using hm
  · have hm := DataW.weights_mem_each (P := Tryd.prog) (ts := [38, 41]) (ds := xs.map (·.1)) (j := 1) (t := 41) (d := y1.1) rfl (by rw [List.getElem?_map, e1]; rfl) q hq
    simpa [DataW.weights, Tryd.underlying55] using hm
end
section
variable {H : Type} {enc : TypeId × Value → H} {W : World} {m : Nat} {x : DataW H × List MemPlace}
theorem open_rowPU {cs : List Value} (h : DataW.trod enc Tryd.prog W 0 (fun _ => true) true m 48 cs = some x) (hw : ∀ n ∈ x.1.weights Tryd.prog 48, n ≤ reachBytes) :
    ∃ (A : Option Addr) (cap : Nat) (l : List PR), cs = [.slice A l.length cap] ∧ ReadsP W A l ∧ (A = none → cap = 0) ∧ l.length ≤ 733007751850 ∧ l.length ≤ cap ∧ ∀ p ∈ l, SP p := by
  rcases Go.Deep.open_slice Tryd.underlying48 h with ⟨hcs, hx⟩ | ⟨a, len, cap, mm, k, D, Pl, hcs, _, hl, hm, hme, hx, hel⟩
  · exact ⟨none, 0, [], hcs, fun j u hu => by simp at hu, fun _ => rfl, by simp, by simp, by simp⟩
  · have hme' : len ≤ mm := by
      simp at hme
      omega
    have hd : x.1 = .slice ((List.range len).map D) ((List.range (mm - len)).map fun j => D (len + j)) := congrArg Prod.fst hx
    have each : ∀ i, i < len → ∃ u : PR, (OkP u ∧ SP u) ∧ W.cells? 0 (a.add (i * 20)) 20 = some u.cs := by
      intro i hi
      obtain ⟨cs', h1, h2⟩ := hel i (by omega)
      obtain ⟨u, rfl, hu⟩ := cells_prop h2
      rw [cellsOf46] at h1
      exact ⟨u, ⟨hu, prop_str h2 (fun q hq => hw q (by
        have hm := weights_all (P := Tryd.prog) (e := 55) (l := (List.range len).map D) (d := D i) (List.mem_map.2 ⟨i, List.mem_range.2 hi, rfl⟩) q hq
        rw [hd]
        simp only [DataW.weights, Tryd.underlying48, List.mem_cons, List.mem_append]
        exact .inr (.inl hm)))⟩, h1⟩
    obtain ⟨l, hll, hlr⟩ := rows_of pcs_length (by omega) each
    refine ⟨some a, cap, l, by rw [hcs, hll], fun j p hp => ?_, (fun h => by cases h), ?_, by omega, fun p hp => ?_⟩
    · obtain ⟨h1, b, off, rfl, h3, h4⟩ := hlr j p hp
      exact ⟨h1.1, b, off, rfl, h3, h4⟩
    · rw [hx] at hw
      have h1 := hw ((((List.range len).map D).length + ((List.range (mm - len)).map fun j => D (len + j)).length) * Tryd.prog.bytesOf 55) (by simp [DataW.weights, Tryd.underlying48])
      rw [bytes46] at h1
      have h2 := reachBytes_lt
      simp at h1
      omega
    · obtain ⟨j, hj⟩ := List.getElem?_of_mem hp
      exact (hlr j p hj).1.2
set_option maxRecDepth 100000 in
theorem cells_shapeU {cs : List Value} (h : DataW.trod enc Tryd.prog W 0 (fun _ => true) true m 50 cs = some x) (hw : ∀ n ∈ x.1.weights Tryd.prog 50, n ≤ reachBytes) :
    ∃ e : CE, (e.s.p.x < 2 ^ 64 ∧ e.s.ps.length ≤ 733007751850 ∧ ReadsP W e.A e.s.ps ∧ (e.A = none → e.cap = 0) ∧ e.s.ps.length ≤ e.cap ∧ SS e.s) ∧ cs = e.cs := by
  obtain ⟨xs, n, _, rfl, hl, hlen, hf⟩ := DataW.trod_struct Tryd.underlying50 h
  rw [cellsOf28] at hl
  match cs, hl with
  | [c0, c1, c2, c3, c4, c5, c6, c7], _ =>
    have h0 := hf 0 _ rfl
    have h1 := hf 1 _ rfl
    have h2 := hf 2 _ rfl
    have h3 := hf 3 _ rfl
    simp [cellsOf3, cellsOf4, cellsOf24, cellsOf26] at h0 h1 h2 h3 hlen
    have g : ∀ j, j < 4 → ∃ y, xs[j]? = some y := fun j hj => ⟨_, List.getElem?_eq_getElem (by omega)⟩
    obtain ⟨y0, e0⟩ := g 0 (by omega)
    obtain ⟨y1, e1⟩ := g 1 (by omega)
    obtain ⟨y2, e2⟩ := g 2 (by omega)
    obtain ⟨y3, e3⟩ := g 3 (by omega)
    rw [e0] at h0
    rw [e1] at h1
    rw [e2] at h2
    rw [e3] at h3
    obtain ⟨kd, rfl, -, -⟩ := cell_int Tryd.underlying3 h0
    obtain ⟨v, hv, hx64, -⟩ := cells_value h1
    obtain ⟨b, rfl, -⟩ := cell_bool Tryd.underlying4 h2
    have hsv : SV v := val_str (u := v) (by rw [hv] at h1; exact h1) (fun q hq => hw q (by
      have hm := DataW.weights_mem_each (P := Tryd.prog) (ts := [3, 36, 4, 48]) (ds := xs.map (·.1)) (j := 1) (t := 36) (d := y1.1) rfl (by rw [List.getElem?_map, e1]; rfl) q hq
      simpa [DataW.weights, Tryd.underlying50] using hm))
    obtain ⟨A, cap, l, hcs, hR, hc0, hz, hlc, hsp⟩ := open_rowPU h3 (fun q hq => hw q (by
      have hm := DataW.weights_mem_each (P := Tryd.prog) (ts := [3, 36, 4, 48]) (ds := xs.map (·.1)) (j := 3) (t := 48) (d := y3.1) rfl (by rw [List.getElem?_map, e3]; rfl) q hq
      simpa [DataW.weights, Tryd.underlying50] using hm))
    refine ⟨⟨⟨kd, v, b, l⟩, A, cap⟩, ⟨hx64, hz, hR, hc0, hlc, hsv, hsp⟩, ?_⟩
    simp only [List.cons.injEq] at hv hcs
    obtain ⟨rfl, rfl, rfl, rfl, rfl, -⟩ := hv
    obtain ⟨rfl, -⟩ := hcs
    rfl
/-- A slice of shapes, with all that the copies ask. -/
def ReadsX (w : World) (A : Option Addr) (l : List SH) : Prop := ∀ j s, l[j]? = some s → SS s ∧ s.p.x < 2 ^ 64 ∧ s.ps.length ≤ 733007751850 ∧ ∃ b off SA cap, A = some ⟨b, off, none⟩ ∧ b < w.heap.size ∧ ReadsP w SA s.ps ∧ w.rangeAt b (off + j * 8) (s.cs SA cap) ∧ (SA = none → cap = 0) ∧ s.ps.length ≤ cap
theorem open_rowSU {v : Value} {d : DataW H} {p : List MemPlace} {A : Option Addr} {n cap : Nat} (hv : v = .slice A n cap) (h : DataW.Trod enc Tryd.prog W 0 (fun _ => true) true 22 v d p) (hw : ∀ n ∈ d.weights Tryd.prog 22, n ≤ reachBytes) : ∃ l : List SH, n = l.length ∧ ReadsX W A l := by
  subst hv
  obtain ⟨fuel, hf⟩ := h
  rcases Go.Deep.open_slice Tryd.underlying22 hf with ⟨hcs, hx⟩ | ⟨a, len, cap', mm, k, D, Pl, hcs, _, hl, hm, hme, hx, hel⟩
  · simp [Value.cells] at hcs
    obtain ⟨rfl, rfl, rfl⟩ := hcs
    exact ⟨[], rfl, fun j u hu => by simp at hu⟩
  · simp [Value.cells] at hcs
    obtain ⟨rfl, rfl, rfl⟩ := hcs
    have hme' : n ≤ mm := by
      simp at hme
      omega
    have hd : d = .slice ((List.range n).map D) ((List.range (mm - n)).map fun j => D (n + j)) := congrArg Prod.fst hx
    have each : ∀ i, i < n → ∃ u : CE, (u.s.p.x < 2 ^ 64 ∧ u.s.ps.length ≤ 733007751850 ∧ ReadsP W u.A u.s.ps ∧ (u.A = none → u.cap = 0) ∧ u.s.ps.length ≤ u.cap ∧ SS u.s) ∧ W.cells? 0 (a.add (i * 8)) 8 = some u.cs := by
      intro i hi
      obtain ⟨cs', h1, h2⟩ := hel i (by omega)
      obtain ⟨u, hu, rfl⟩ := cells_shapeU h2 (fun q hq => hw q (by
        have hm := weights_all (P := Tryd.prog) (e := 50) (l := (List.range n).map D) (d := D i) (List.mem_map.2 ⟨i, List.mem_range.2 hi, rfl⟩) q hq
        rw [hd]
        simp only [DataW.weights, Tryd.underlying22, List.mem_cons, List.mem_append]
        exact .inr (.inl hm)))
      rw [cellsOf28] at h1
      exact ⟨u, hu, h1⟩
    obtain ⟨l, hll, hlr⟩ := rows_of ce_length (by omega) each
    refine ⟨l.map CE.s, by simp [hll], fun j s hs => ?_⟩
    rw [List.getElem?_map] at hs
    obtain ⟨e, he, rfl⟩ := Option.map_eq_some_iff.1 hs
    obtain ⟨⟨h1, h2, h3, h4, h5, h6⟩, b, off, rfl, h7, h8⟩ := hlr j e he
    exact ⟨h6, h1, h2, b, off, e.A, e.cap, rfl, h7, h3, h8, h4, h5⟩
end
theorem ReadsX.s {w : World} {A : Option Addr} {l : List SH} (h : ReadsX w A l) : ReadsS w A l := fun j s hs => by
  obtain ⟨_, h1, h2, b, off, SA, cap, h3, h4, h5, h6, _⟩ := h j s hs
  exact ⟨h1, h2, b, off, SA, cap, h3, h4, h5, h6⟩
theorem ReadsX.t {w : World} {A : Option Addr} {l : List SH} (h : ReadsX w A l) : ReadsT w A l := fun j s hs => by
  obtain ⟨_, h1, h2, b, off, SA, cap, h3, h4, h5, h6, h7, _⟩ := h j s hs
  exact ⟨h1, h2, b, off, SA, cap, h3, h4, h5, h6, h7⟩
theorem ReadsX.v {w : World} {A : Option Addr} {l : List SH} (h : ReadsX w A l) (hl : ∀ s ∈ l, s.ps.length ≤ 400) : ReadsV w A l := fun j s hs => by
  obtain ⟨_, h1, h2, b, off, SA, cap, h3, h4, h5, h6, h7, h8⟩ := h j s hs
  exact ⟨h1, hl s (List.mem_of_getElem? hs), b, off, SA, cap, h3, h4, h5, h6, h8, h7⟩
end Go.Proofs.YtcflglloopgieaaDoor

/-! Je -/
namespace Go.Proofs.YtcflglloopgieaaDoor
open Go Go.Proofs Go.Maps Go.RowKit FM
set_option linter.unusedSimpArgs false
set_option linter.unusedVariables false
set_option maxHeartbeats 1000000
theorem take_dup {l : List PR} {i : Nat} {p : PR} (hp : l[i]? = some p) : (fO (l.take i) p.k).isSome = dupAt l i := by
  obtain ⟨j, hj, hji⟩ := fO_mem hp
  unfold dupAt
  rw [hp]
  simp only [hj]
  by_cases e : j = i
  · subst e
    cases hf : fO (l.take j) p.k with
    | none => simp
    | some m =>
      obtain ⟨r, hr, hrk⟩ := fO_get hf
      have hm : m < j := by
        have := (List.getElem?_eq_some_iff.1 hr).1
        simp at this
        omega
      rw [List.getElem?_take, if_pos hm] at hr
      obtain ⟨j2, h2, h3⟩ := fO_mem hr
      rw [hrk, hj] at h2
      obtain rfl := Option.some.inj h2
      omega
  · obtain ⟨r, hr, hrk⟩ := fO_get hj
    have hr2 : (l.take i)[j]? = some r := by rw [List.getElem?_take, if_pos (by omega)]; exact hr
    obtain ⟨j2, h2, h3⟩ := fO_mem hr2
    rw [hrk] at h2
    simp [h2, e]
theorem cnt_spec (l : List PR) : ∀ n, n ≤ l.length → cntK l n ≤ n ∧ (cntK l n < n ↔ ∃ k, k < n ∧ dupAt l k = true)
  | 0, _ => ⟨Nat.le_refl _, by simp⟩
  | n + 1, hn => by
    obtain ⟨h1, h2⟩ := cnt_spec l n (by omega)
    obtain ⟨p, hp⟩ : ∃ p, l[n]? = some p := ⟨_, List.getElem?_eq_getElem (by omega)⟩
    have hd := take_dup hp
    cases hq : dupAt l n with
    | true =>
      rw [hq] at hd
      rw [cntK_yes hp hd]
      exact ⟨by omega, fun _ => ⟨n, by omega, hq⟩, fun _ => by omega⟩
    | false =>
      rw [hq] at hd
      rw [cntK_no hp (by simpa using hd)]
      refine ⟨by omega, fun h => ?_, fun h => ?_⟩
      · obtain ⟨k, hk, hk2⟩ := h2.1 (by omega)
        exact ⟨k, by omega, hk2⟩
      · obtain ⟨k, hk, hk2⟩ := h
        have : k ≠ n := fun e => by rw [e, hq] at hk2; cases hk2
        have := h2.2 ⟨k, by omega, hk2⟩
        omega
theorem dbl_any (ps : List PR) : dblV ps = anyP dupAt ps := by
  have h := (cnt_spec ps ps.length (Nat.le_refl _)).2
  unfold dblV anyP
  rw [Bool.eq_iff_iff]
  simp only [decide_eq_true_eq, List.any_eq_true, List.mem_range]
  exact h
theorem dbl_tw (l : List SH) : dblA l = twV l := by
  unfold dblA twV anyS
  simp only [dbl_any]
/-- What both say of two moments. -/
def DT (bs ns : List SH) (er : Int) (r : List DL) : Prop := (ns.length < bs.length ∧ er = 7 ∧ r = []) ∨ (¬ ns.length < bs.length ∧ (twV bs || twV ns) = true ∧ er = 5 ∧ r = []) ∨ (¬ ns.length < bs.length ∧ (twV bs || twV ns) = false ∧ er = 0 ∧ r = diffT bs ns ns.length)
theorem DT.same {bs ns : List SH} {e e2 : Int} {r r2 : List DL} (h : DT bs ns e r) (k : DT bs ns e2 r2) : e2 = e ∧ r2 = r := by
  rcases h with ⟨a1, rfl, rfl⟩ | ⟨a1, a2, rfl, rfl⟩ | ⟨a1, a2, rfl, rfl⟩
  · rcases k with ⟨b1, rfl, rfl⟩ | ⟨b1, b2, rfl, rfl⟩ | ⟨b1, b2, rfl, rfl⟩
    · exact ⟨rfl, rfl⟩
    · exact absurd a1 b1
    · exact absurd a1 b1
  · rcases k with ⟨b1, rfl, rfl⟩ | ⟨b1, b2, rfl, rfl⟩ | ⟨b1, b2, rfl, rfl⟩
    · exact absurd b1 a1
    · exact ⟨rfl, rfl⟩
    · rw [a2] at b2; cases b2
  · rcases k with ⟨b1, rfl, rfl⟩ | ⟨b1, b2, rfl, rfl⟩ | ⟨b1, b2, rfl, rfl⟩
    · exact absurd b1 a1
    · rw [a2] at b2; cases b2
    · exact ⟨rfl, rfl⟩
def DB (d : DL) : Prop := d.v.x < 2 ^ 64 ∧ FD d.d
theorem zb : zeroV.x < 2 ^ 64 ∧ FD zeroD := ⟨by decide, by decide, by decide, by decide⟩
theorem goT_db (o : Int) (is was : List PR) : ∀ n, ∀ d ∈ goT o is was n, DB d
  | 0, d, h => by simp [goT] at h
  | n + 1, d, h => by
    unfold goT at h
    split at h
    · exact goT_db o is was n d h
    · split at h
      · exact goT_db o is was n d h
      · rcases List.mem_append.1 h with h | h
        · exact goT_db o is was n d h
        · obtain rfl := List.mem_singleton.1 h
          exact zb
theorem chT_db (o : Int) (is st : List PR) (hi : ∀ q ∈ is, FD q.d) : ∀ n, ∀ d ∈ chT o is st n, DB d
  | 0, d, h => by simp [chT] at h
  | n + 1, d, h => by
    unfold chT at h
    split at h
    · rename_i p q hp hq
      split at h
      · exact chT_db o is st hi n d h
      · rcases List.mem_append.1 h with h | h
        · exact chT_db o is st hi n d h
        · obtain rfl := List.mem_singleton.1 h
          exact ⟨zb.1, hi q (List.mem_of_getElem? hq)⟩
    · exact chT_db o is st hi n d h
theorem props_db (o : Int) (was is : List PR) (hi : ∀ q ∈ is, FD q.d) : ∀ d ∈ propsL o was is, DB d := fun d h => by
  unfold propsL at h
  rcases List.mem_append.1 h with h | h
  · exact goT_db o is was _ d h
  · rcases List.mem_append.1 h with h | h
    · exact chT_db o is _ hi _ d h
    · obtain ⟨q, hq, rfl⟩ := List.mem_map.1 h
      exact ⟨zb.1, hi q (List.mem_of_mem_drop hq)⟩
theorem chg_db (o : Int) (b a : SH) (hp : a.p.x < 2 ^ 64) (hi : ∀ q ∈ a.ps, FD q.d) : ∀ d ∈ chgL o b a, DB d := fun d h => by
  unfold chgL at h
  rcases List.mem_append.1 h with h | h
  · cases hc : (a.c != b.c) <;> rw [hc] at h <;> simp at h
    subst h
    exact zb
  · rcases List.mem_append.1 h with h | h
    · cases hc : eqB b.p a.p <;> rw [hc] at h <;> simp at h
      subst h
      exact ⟨hp, zb.2⟩
    · rcases List.mem_append.1 h with h | h
      · cases hc : (a.x != b.x) <;> rw [hc] at h <;> simp at h
        subst h
        exact zb
      · exact props_db o _ _ hi d h
theorem made_db (o : Int) (a : SH) (hp : a.p.x < 2 ^ 64) (hi : ∀ q ∈ a.ps, FD q.d) : ∀ d ∈ madeL o a, DB d := fun d h => by
  rcases List.mem_cons.1 h with rfl | h
  · exact ⟨hp, zb.2⟩
  · obtain ⟨q, hq, rfl⟩ := List.mem_map.1 h
    exact ⟨zb.1, hi q hq⟩
theorem diff_db (bs ns : List SH) (hn : ∀ a ∈ ns, a.p.x < 2 ^ 64 ∧ ∀ q ∈ a.ps, FD q.d) : ∀ n, ∀ d ∈ diffT bs ns n, DB d
  | 0, d, h => by simp [diffT] at h
  | n + 1, d, h => by
    unfold diffT at h
    rcases List.mem_append.1 h with h | h
    · exact diff_db bs ns hn n d h
    · split at h
      · cases h
      · rename_i a ha
        have hm := hn a (List.mem_of_getElem? ha)
        split at h
        · exact chg_db _ _ a hm.1 hm.2 d h
        · exact made_db _ a hm.1 hm.2 d h
theorem diff_len (bs ns : List SH) (hb : ∀ a ∈ bs, a.ps.length ≤ 400) (hn : ∀ a ∈ ns, a.ps.length ≤ 400) : ∀ n, (diffT bs ns n).length ≤ 1203 * n
  | 0 => by simp [diffT]
  | n + 1 => by
    have ih := diff_len bs ns hb hn n
    unfold diffT
    rw [List.length_append]
    split
    · simp
      omega
    · rename_i a ha
      have h1 := hn a (List.mem_of_getElem? ha)
      split
      · rename_i b hb2
        have h2 := hb b (List.mem_of_getElem? hb2)
        have h3 := chgL_len ((n : Int) + 1) b a
        omega
      · simp [madeL]
        omega
theorem DT.ok {w : World} {B : Option Addr} {bs ns : List SH} {er : Int} {r : List DL} (h : DT bs ns er r) (hA : ∀ a ∈ bs, a.ps.length ≤ 400) (hB : ReadsS w B ns) (hB4 : ∀ a ∈ ns, a.ps.length ≤ 400) (hn : ns.length ≤ 60) : r.length ≤ 1000000 ∧ ∀ d ∈ r, DB d := by
  rcases h with ⟨_, _, rfl⟩ | ⟨_, _, _, rfl⟩ | ⟨_, _, _, rfl⟩
  · simp
  · simp
  · refine ⟨?_, diff_db bs ns (fun a ha => ?_) _⟩
    · have := diff_len bs ns hA hB4 ns.length
      omega
    · obtain ⟨j, hj⟩ := List.getElem?_of_mem ha
      obtain ⟨h1, _, _, _, _, _, _, _, h2, _⟩ := hB j a hj
      refine ⟨h1, fun q hq => ?_⟩
      obtain ⟨k, hk⟩ := List.getElem?_of_mem hq
      exact (h2 k q hk).1.1
theorem dlcs_len (d : DL) : d.cs.length = 29 := by simp [DL.cs, VV.cs, KK.cs, DD.cs]
theorem own_readsL {W : World} {base : Nat} {A : Option Addr} {c : Nat} {l : List DL} (hok : ∀ d ∈ l, DB d) (h : W.ownsRow base 43 29 (.slice A l.length c) l.length (flatL l)) : ReadsL W A l := fun j p hp => by
  obtain ⟨hj, rfl⟩ := List.getElem?_eq_some_iff.1 hp
  obtain ⟨g, c2, h3, h4, h5, h6⟩ := own_row dlcs_len h rfl j hj
  obtain ⟨hA, _⟩ : A = some ⟨g, 0, none⟩ ∧ _ := by simpa using h3
  exact ⟨hok _ (List.getElem_mem hj), g, 0, hA, h5, h6⟩
theorem ReadsL.far {X Y : World} {A : Option Addr} {l : List DL} {E : List Nat} (h : ReadsL X A l) (hf : Fr X Y E) (hE : ∀ b off, A = some ⟨b, off, none⟩ → b ∉ E) : ReadsL Y A l := fun j p hp => by
  obtain ⟨h1, b, off, h2, h3, h4⟩ := h j p hp
  exact ⟨h1, b, off, h2, Nat.lt_of_lt_of_le h3 hf.size, rangeAt_far h4 h3 hf (hE b off h2)⟩
theorem own_holds {W : World} {base n : Nat} {v : Value} {xs : List Value} (h : W.ownsRow base 43 29 v n xs) (hn : 0 < n) : ∃ g c cs, v = .slice (some ⟨g, 0, none⟩) n c ∧ base ≤ g ∧ Holds W g cs ∧ n * 29 ≤ cs.length := by
  rcases h.2 with ⟨h1, h0⟩ | ⟨g, cap, cur, h1, h2, h3, h4, h5, h6, h7⟩
  · omega
  · refine ⟨g, cap, cur.toList, h1, h2, ⟨fun j => by simp [World.frozen?, h3], fun j u hu => ?_⟩, ?_⟩
    · have e2 : cur[j]? = some u := by simpa using hu
      rw [Nat.zero_add]
      simp [World.cell?, h3, e2]
    · simp [h6]
      exact Nat.mul_le_mul_right 29 h4
theorem cput_len {cs vs : List Value} {p : Nat} (h : p + vs.length ≤ cs.length) : (cput cs p vs).length = cs.length := by
  simp [cput]
  omega
theorem ReadsX.fr {w X : World} {A : Option Addr} {l : List SH} (h : ReadsX w A l) (hf : Fr w X []) : ReadsX X A l := fun j s hs => by
  obtain ⟨h0, h1, h2, b, off, SA, cap, h3, h4, h5, h6, h7, h8⟩ := h j s hs
  exact ⟨h0, h1, h2, b, off, SA, cap, h3, Nat.lt_of_lt_of_le h4 hf.size, h5.fr hf, rangeAt_fr h6 h4 hf, h7, h8⟩
theorem bfr {X Y : World} (k : Below X.heap.size X Y) : Fr X Y [] := (Fr.refl X []).on k
theorem Hq.far0 {w X Y : World} (h : Hq w X [] []) (k : Fr X Y []) : Hq w Y [] [] := ⟨h.fr.trans k (by simp), by simp, by simp⟩
theorem rows_apart {X Y : World} {base e s n n2 : Nat} {A A2 : Option Addr} {c c2 : Nat} {xs xs2 : List Value} (h1 : X.ownsRow base e s (.slice A n c) n xs) (h2 : Y.ownsRow X.heap.size e s (.slice A2 n2 c2) n2 xs2) : ∀ g o, A = some ⟨g, o, none⟩ → ∀ o2, A2 ≠ some ⟨g, o2, none⟩ := fun g o h o2 h' => by
  subst h
  subst h'
  have := (World.ownsRow.lt h1 g rfl).2
  have := (World.ownsRow.lt h2 g rfl).1
  omega
def nineL : DL := ⟨-9, 0, 0, false, zeroV, zeroK, zeroD⟩
theorem b9 (w : World) : (Instr.build 43 #[(0, .int .i64 (-9))]).run Tryd.prog w = .ok (.agg (DL.cs nineL).toArray) w := by kernel_rfl
theorem ex_b9 {o : Oper} {a : Act} {w : World} {x0 : Operand} (ho : o.op = .build 43 #[(0, x0)]) (h0 : a.eval x0 = .int .i64 (-9)) : (execOp a.eval o).run Tryd.prog w = .ok (.value (.agg (DL.cs nineL).toArray)) w := by
  have e := b9 w
  unfold execOp
  simp only [ho, List.map_toArray, List.map_cons, List.map_nil, h0]
  simp [e]
end Go.Proofs.YtcflglloopgieaaDoor

/-! Jf -/
namespace Go.Proofs.YtcflglloopgieaaDoor
open Go Go.Proofs Go.Maps Go.RowKit FM
set_option linter.unusedSimpArgs false
set_option linter.unusedVariables false
set_option maxHeartbeats 1000000
set_option maxHeartbeats 4000000 in
set_option maxRecDepth 100000 in
theorem law_diffs (A B : Option Addr) (ca cb : Nat) (la lb : List SH) (w : World) (hA : ReadsX w A la) (hB : ReadsX w B lb) (hT : Lib.Utf8Tabs 1 2 w) : Calls Tryd.prog 3 #[.slice A la.length ca, .slice B lb.length cb] w fun e w' => e = .returned (.bool true) ∧ Below w.heap.size w w' := by
  have LL := hide (Hq.nil w [])
  have HT := hide hT
  have HA := hide hA
  have HB := hide hB
  clear hT hA hB
  go_enter Tryd.func3, Tryd.ntmps3
  go_wp2_with fail
  refine (few_any A ca la _ ((unhide HA).s.fr (unhide LL).fr)).mono ?_
  rintro e Yla ⟨qla, rfl, hqla, hYla⟩
  have HQla := hide hqla
  replace LL := hide ((unhide LL).on hYla)
  clear hqla hYla
  cases qla
  · go_wp2
    go_ret
    exact ⟨by simp, (unhide LL).fr.below⟩
  · replace HQla := hide (unhide HQla rfl)
    go_wp2_with fail
    refine (few_any B cb lb _ ((unhide HB).s.fr (unhide LL).fr)).mono ?_
    rintro e Ylb ⟨qlb, rfl, hqlb, hYlb⟩
    have HQlb := hide hqlb
    replace LL := hide ((unhide LL).on hYlb)
    clear hqlb hYlb
    cases qlb
    · go_wp2
      go_ret
      exact ⟨by simp, (unhide LL).fr.below⟩
    · replace HQlb := hide (unhide HQlb rfl)
      go_wp2_with fail
      refine (copy_any A ca la _ ((unhide HA).fr (unhide LL).fr).t (by have := (unhide HQla).1; omega)).mono ?_
      rintro e C1 ⟨A1, c1, cl1, rfl, hcr, hcl, hcc⟩
      have hF := hcr.fr
      replace LL := hide ((unhide LL).far0 hF)
      have HU1 := hide (copy_reads hcr hcl hcc (fun j s hs => ⟨((unhide HA) j s hs).1, ((unhide HA) j s hs).2.1, (unhide HQla).2 s (List.mem_of_getElem? hs)⟩))
      clear hcr hcl hcc hF
      go_wp2_with fail
      refine (copy_any B cb lb _ ((unhide HB).fr (unhide LL).fr).t (by have := (unhide HQlb).1; omega)).mono ?_
      rintro e C2 ⟨A2, c2, cl2, rfl, hcr, hcl, hcc⟩
      have hF := hcr.fr
      replace LL := hide ((unhide LL).far0 hF)
      replace HU1 := hide ((unhide HU1).fr hF)
      have HU2 := hide (copy_reads hcr hcl hcc (fun j s hs => ⟨((unhide HB) j s hs).1, ((unhide HB) j s hs).2.1, (unhide HQlb).2 s (List.mem_of_getElem? hs)⟩))
      clear hcr hcl hcc hF
      go_wp2_with fail
      refine (diff_any A1 A2 c1 c2 la lb _ (unhide HU1) (unhide HU2) (by have := (unhide HQla).1; omega) (by have := (unhide HQlb).1; omega) (tabs_below (unhide HT) (unhide LL).fr.below)).mono ?_
      rintro e D1 ⟨v1, er1, r1, rfl, hO, hbel, hd⟩
      have hsz := (unhide LL).fr.size
      have hF := bfr hbel
      obtain ⟨X1, x1, rfl⟩ := own_form hO
      replace LL := hide ((unhide LL).far0 hF)
      replace HU1 := hide ((unhide HU1).fr hF)
      replace HU2 := hide ((unhide HU2).fr hF)
      have hdt : DT la lb er1 r1 := by
        simp only [dbl_tw] at hd
        rcases hd with ⟨h1, h2, h3, _⟩ | ⟨h1, h2, h3, h4, _⟩ | h1
        · exact .inl ⟨h1, h2, h3⟩
        · exact .inr (.inl ⟨h1, h2, h3, h4⟩)
        · exact .inr (.inr h1)
      have HR := hide (hdt.ok (unhide HQla).2 (unhide HB).s (unhide HQlb).2 (unhide HQlb).1)
      have RL1 := hide (own_readsL (unhide HR).2 hO)
      have HO1 := hide (own_mono hO hsz)
      have HDT := hide hdt
      clear hO hbel hd hF hdt hsz
      go_wp2_with fail
      refine (diff_any A1 A2 c1 c2 la lb _ (unhide HU1) (unhide HU2) (by have := (unhide HQla).1; omega) (by have := (unhide HQlb).1; omega) (tabs_below (unhide HT) (unhide LL).fr.below)).mono ?_
      rintro e D2 ⟨v2, er2, r2, rfl, hO, hbel, hd⟩
      have hsz := (unhide LL).fr.size
      have hF := bfr hbel
      obtain ⟨X2, x2, rfl⟩ := own_form hO
      have HAP2 := hide (rows_apart (unhide HO1) hO)
      replace LL := hide ((unhide LL).far0 hF)
      replace HU1 := hide ((unhide HU1).fr hF)
      replace HU2 := hide ((unhide HU2).fr hF)
      replace RL1 := hide ((unhide RL1).fr hF)
      replace HO1 := hide (own_fr (unhide HO1) hF)
      have hdt : DT la lb er2 r2 := by
        simp only [dbl_tw] at hd
        rcases hd with ⟨h1, h2, h3, _⟩ | ⟨h1, h2, h3, h4, _⟩ | h1
        · exact .inl ⟨h1, h2, h3⟩
        · exact .inr (.inl ⟨h1, h2, h3, h4⟩)
        · exact .inr (.inr h1)
      obtain ⟨he, hr⟩ := (unhide HDT).same hdt
      obtain rfl := he.symm
      obtain rfl := hr.symm
      have RL2 := hide (own_readsL (unhide HR).2 hO)
      clear hO hbel hd hF hdt hsz he hr
      go_wp2_with fail
      refine (refDiff_any A B ca cb la lb _ (((unhide HA).fr (unhide LL).fr).v (unhide HQla).2) (((unhide HB).fr (unhide LL).fr).v (unhide HQlb).2) (by have := (unhide HQla).1; omega) (by have := (unhide HQlb).1; omega)).mono ?_
      rintro e D3 ⟨v3, er3, r3, rfl, ⟨hO, hF⟩, hdt⟩
      have hsz := (unhide LL).fr.size
      skip
      obtain ⟨X3, x3, rfl⟩ := own_form hO
      have HAP3 := hide (rows_apart (unhide HO1) hO)
      replace LL := hide ((unhide LL).far0 hF)
      replace HU1 := hide ((unhide HU1).fr hF)
      replace HU2 := hide ((unhide HU2).fr hF)
      replace RL1 := hide ((unhide RL1).fr hF)
      replace RL2 := hide ((unhide RL2).fr hF)
      replace HO1 := hide (own_fr (unhide HO1) hF)
      obtain ⟨he, hr⟩ := (unhide HDT).same hdt
      obtain rfl := he.symm
      obtain rfl := hr.symm
      have RL3 := hide (own_readsL (unhide HR).2 hO)
      clear hO hF hdt hsz he hr
      go_wp2_with fail
      refine (sameDeltas_self r1 X1 X3 x1 x3 _ (unhide RL1) (unhide RL3) (unhide HR).1).mono ?_
      rintro e S1 ⟨rfl, hb⟩
      have hF := bfr hb
      replace LL := hide ((unhide LL).far0 hF)
      replace HU1 := hide ((unhide HU1).fr hF)
      replace HU2 := hide ((unhide HU2).fr hF)
      replace RL1 := hide ((unhide RL1).fr hF)
      replace RL2 := hide ((unhide RL2).fr hF)
      replace RL3 := hide ((unhide RL3).fr hF)
      replace HO1 := hide (own_fr (unhide HO1) hF)
      clear hF hb
      go_wp2_with fail
      refine (sameDeltas_self r1 X2 X3 x2 x3 _ (unhide RL2) (unhide RL3) (unhide HR).1).mono ?_
      rintro e S2 ⟨rfl, hb⟩
      have hF := bfr hb
      replace LL := hide ((unhide LL).far0 hF)
      replace HU1 := hide ((unhide HU1).fr hF)
      replace HU2 := hide ((unhide HU2).fr hF)
      replace RL1 := hide ((unhide RL1).fr hF)
      replace RL2 := hide ((unhide RL2).fr hF)
      replace RL3 := hide ((unhide RL3).fr hF)
      replace HO1 := hide (own_fr (unhide HO1) hF)
      clear hF hb
      go_wp2_with fail
      refine (num11 er1 _).mono ?_
      rintro e N1 ⟨rfl, hN⟩
      obtain rfl := hN.symm
      have hne : (er1 != er1) = false := by simp
      go_wp2_with (first | go_skip | ((with_reducible show wpList _ _ _ _ _ _); first | ((refine rd (by rfl) (ex_neI rfl rfl rfl hne) ?_); simp only [Act.put, nzA, nzB, nzC])))
      refine (same_self la A1 A c1 ca _ (unhide HU1).s ((unhide HA).fr (unhide LL).fr).s (by have := (unhide HQla).1; omega)).mono ?_
      rintro e S3 ⟨rfl, hb⟩
      have hF := bfr hb
      replace LL := hide ((unhide LL).far0 hF)
      replace HU1 := hide ((unhide HU1).fr hF)
      replace HU2 := hide ((unhide HU2).fr hF)
      replace RL1 := hide ((unhide RL1).fr hF)
      replace RL2 := hide ((unhide RL2).fr hF)
      replace RL3 := hide ((unhide RL3).fr hF)
      replace HO1 := hide (own_fr (unhide HO1) hF)
      clear hF hb
      go_wp2_with fail
      refine (same_self lb A2 B c2 cb _ (unhide HU2).s ((unhide HB).fr (unhide LL).fr).s (by have := (unhide HQlb).1; omega)).mono ?_
      rintro e S4 ⟨rfl, hb⟩
      have hF := bfr hb
      replace LL := hide ((unhide LL).far0 hF)
      replace HU1 := hide ((unhide HU1).fr hF)
      replace HU2 := hide ((unhide HU2).fr hF)
      replace RL1 := hide ((unhide RL1).fr hF)
      replace RL2 := hide ((unhide RL2).fr hF)
      replace RL3 := hide ((unhide RL3).fr hF)
      replace HO1 := hide (own_fr (unhide HO1) hF)
      clear hF hb
      go_wp2_with fail
      by_cases hn : 0 < r1.length
      · obtain ⟨g, xc, cs0, hv, hg, hh, hlen⟩ := own_holds (unhide HO1) hn
        obtain ⟨hX, _⟩ : X1 = some ⟨g, 0, none⟩ ∧ _ := by simpa using hv
        have HX1 := hide hX
        have HG := hide hg
        have HE2 := hide ((unhide HAP2) g 0 hX)
        have HE3 := hide ((unhide HAP3) g 0 hX)
        replace LL := hide ((unhide LL).add hh (by omega) (by simp))
        have HC0 := hide hlen
        clear hv hg hh hlen hX hn
        go_loopg [13] r1.length (fun gm s13 wr => ∃ (i : Nat) (cs : List Value), s13 = .int .i64 (i : Nat) ∧ i ≤ r1.length ∧ r1.length - i ≤ gm ∧ Hid (r1.length * 29 ≤ cs.length) ∧ Hid (Hq w wr [] [(g, cs)]) ∧ Hid (Fr S4 wr [g]))
        case atStart => exact ⟨0, cs0, rfl, by omega, by omega, HC0, LL, hide (Fr.refl _ _)⟩
        case round =>
          clear LL
          obtain ⟨i, cs, rfl, hil, hgm, HCS, LL, HF⟩ := hrel
          by_cases hlt : i < r1.length
          · have dlt : decide ((i : Int) < (r1.length : Int)) = true := decide_eq_true (by omega)
            have hw1 : IntKind.i64.wrap ((i : Int) + 1) = (i : Int) + 1 := by have := (unhide HR).1; rw [IntKind.wrap_i64]; omega
            have HP : Hid (0 + i * 29 + nineL.cs.length ≤ cs.length) := hide (by have := unhide HCS; rw [dlcs_len]; omega)
            have HCN : Hid (r1.length * 29 ≤ (cput cs (0 + i * 29) nineL.cs).length) := hide (by rw [cput_len (unhide HP)]; exact unhide HCS)
            have HLT := hide hlt
            clear hil hlt
            go_wp2_with (first | go_skip | ((with_reducible show wpList _ _ _ _ _ _); first | ((refine rd (by rfl) (ex_lenG 25 43 Tryd.underlying25 rfl rfl) ?_); simp only [Act.put, nzA, nzB, nzC]) | ((refine rd (by rfl) (ex_indexA 25 29 i unLs idLs rfl rfl (unhide HX1) rfl (unhide HLT)) ?_); simp only [Act.put, nzA, nzB, nzC]) | ((refine rd (by rfl) (ex_b9 rfl rfl) ?_); simp only [Act.put, nzA, nzB, nzC]) | ((refine st (vs := nineL.cs) 0 43 (by rfl) rfl rfl rfl rfl (dlcs_one nineL) szL (unhide LL) rfl (unhide HP) (Or.inr (unhide HG)) ?_); intro X8 L8 hf8 hs8; replace LL := hide L8; replace HF := hide ((unhide HF).trans hf8 (fun b hb => .inl hb)); clear L8 hf8 hs8; simp only [Act.put, nzA, nzB, nzC])))
            go_roundg (r1.length - (i + 1))
            case measure => have := unhide HLT; omega
            case rel => exact ⟨i + 1, cput cs (0 + i * 29) nineL.cs, by go_num, by have := unhide HLT; omega, by omega, HCN, LL, HF⟩
          · obtain rfl : i = r1.length := by omega
            clear hlt hil
            go_wp2_with (first | go_skip | ((with_reducible show wpList _ _ _ _ _ _); first | ((refine rd (by rfl) (ex_lenG 25 43 Tryd.underlying25 rfl rfl) ?_); simp only [Act.put, nzA, nzB, nzC])))
            refine (sameDeltas_self r1 X2 X3 x2 x3 _ ((unhide RL2).far (unhide HF) (fun b o h hb => by obtain rfl := List.mem_singleton.1 hb; exact unhide HE2 o h)) ((unhide RL3).far (unhide HF) (fun b o h hb => by obtain rfl := List.mem_singleton.1 hb; exact unhide HE3 o h)) (unhide HR).1).mono ?_
            rintro e V1 ⟨rfl, hb⟩
            replace LL := hide ((unhide LL).on hb)
            clear hb
            go_wp2_with fail
            go_ret
            exact ⟨rfl, (unhide LL).fr.below⟩
      · have h0 : decide ((0 : Int) < (r1.length : Int)) = false := decide_eq_false (by omega)
        clear hn
        go_loopg [13] 0 (fun gm s13 wr => s13 = .int .i64 0 ∧ Hid (Hq w wr [] []) ∧ Hid (Fr S4 wr []))
        case atStart => exact ⟨rfl, LL, hide (Fr.refl _ _)⟩
        case round =>
          clear LL
          obtain ⟨rfl, LL, HF⟩ := hrel
          go_wp2_with (first | go_skip | ((with_reducible show wpList _ _ _ _ _ _); first | ((refine rd (by rfl) (ex_lenG 25 43 Tryd.underlying25 rfl rfl) ?_); simp only [Act.put, nzA, nzB, nzC]) | ((refine rd (by rfl) (ex_ltI rfl rfl rfl h0) ?_); simp only [Act.put, nzA, nzB, nzC])))
          refine (sameDeltas_self r1 X2 X3 x2 x3 _ ((unhide RL2).fr (unhide HF)) ((unhide RL3).fr (unhide HF)) (unhide HR).1).mono ?_
          rintro e V1 ⟨rfl, hb⟩
          replace LL := hide ((unhide LL).on hb)
          clear hb
          go_wp2_with fail
          go_ret
          exact ⟨rfl, (unhide LL).fr.below⟩
end Go.Proofs.YtcflglloopgieaaDoor
