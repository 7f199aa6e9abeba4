import Derived.Test.YtcflglloopgieaaDoorQl

/-! In -/
namespace Go.Proofs.YtcflglloopgieaaDoor
open Go Go.Proofs Go.Maps Go.RowKit FM
set_option linter.unusedSimpArgs false
set_option linter.unusedVariables false
set_option maxHeartbeats 1000000
def flatL (l : List DL) : List Value := l.flatMap DL.cs
theorem flatL_one (l : List DL) : ∀ u ∈ flatL l, u.oneCell' = true := by
  intro u hu
  obtain ⟨d, _, hd⟩ := List.mem_flatMap.1 hu
  exact dlcs_one d u hd
theorem flatL_snoc (l : List DL) (d : DL) : flatL (l ++ [d]) = flatL l ++ d.cs := by simp [flatL]
/-- The tale in block t: its row, and the number of the object. -/
structure TI (b0 : Nat) (X : World) (t : Nat) (o : Int) (xs : List DL) (lv : Value) : Prop where
  hold : Holds X t [lv, .int .i64 o]
  own : X.ownsRow b0 43 29 lv xs.length (flatL xs)
  apart : lv.ownBlock ≠ some t
theorem TI.lt {b0 t : Nat} {X : World} {o : Int} {xs : List DL} {lv : Value} (h : TI b0 X t o xs lv) : t < X.heap.size := h.hold.lt (Nat.succ_pos _)
theorem TI.far {b0 t : Nat} {X Y : World} {o : Int} {xs : List DL} {lv : Value} (h : TI b0 X t o xs lv) (h1 : Y.heap[t]? = X.heap[t]?) (h2 : ∀ g, lv.ownBlock = some g → Y.heap[g]? = X.heap[g]?) : TI b0 Y t o xs lv :=
  ⟨h.hold.block h1, own_blk h.own h2, h.apart⟩
theorem TI.on {b0 t : Nat} {X Y : World} {o : Int} {xs : List DL} {lv : Value} (h : TI b0 X t o xs lv) (k : Below X.heap.size X Y) : TI b0 Y t o xs lv :=
  h.far (k.block t h.lt) (fun g hg => k.block g (World.ownsRow.lt h.own g hg).2)
structure TP (X : World) (b0 t : Nat) (o : Int) (xs ds : List DL) (lv lv' : Value) (Y : World) : Prop where
  ti : TI b0 Y t o (xs ++ ds) lv'
  fr : Fr X Y (t :: lv.ownBlock.toList)
  fre : ∀ g, lv'.ownBlock = some g → lv.ownBlock = some g ∨ X.heap.size ≤ g
def TPost (X : World) (b0 t : Nat) (o : Int) (xs ds : List DL) (lv : Value) (e : Ending) (Y : World) : Prop := ∃ lv', e = .returned (.tuple #[]) ∧ TP X b0 t o xs ds lv lv' Y
/-- The tale beside one's own boxes. -/
structure TS (w Z : World) (E : List Nat) (b0 t : Nat) (o : Int) (xs : List DL) (lv : Value) (L : List (Nat × List Value)) : Prop where
  ti : TI b0 Z t o xs lv
  hq : Hq w Z E L
  sep : ∀ q ∈ L, q.1 ≠ t ∧ lv.ownBlock ≠ some q.1
  ct : t ∈ E ∨ w.heap.size ≤ t
  cl : ∀ g, lv.ownBlock = some g → g ∈ E ∨ w.heap.size ≤ g
theorem TS.start {b0 t : Nat} {X : World} {o : Int} {xs : List DL} {lv : Value} (h : TI b0 X t o xs lv) : TS X X (t :: lv.ownBlock.toList) b0 t o xs lv [] :=
  ⟨h, Hq.nil _ _, (fun q hq => by cases hq), .inl (by simp), fun g hg => .inl (by simp [hg])⟩
section
variable {w Z Y : World} {E : List Nat} {b0 t : Nat} {o : Int} {xs ds : List DL} {lv lv' : Value} {L : List (Nat × List Value)}
theorem TS.on (h : TS w Z E b0 t o xs lv L) (k : Below Z.heap.size Z Y) : TS w Y E b0 t o xs lv L := ⟨h.ti.on k, h.hq.on k, h.sep, h.ct, h.cl⟩
theorem TS.drew (h : TS w Z E b0 t o xs lv L) : TS w Z.drew E b0 t o xs lv L := h.on ⟨rfl, rfl, rfl, Nat.le_refl _, fun _ _ => rfl⟩
theorem TS.new (h : TS w Z E b0 t o xs lv L) (cs : List Value) (T : TypeId) (hc : 0 < cs.length) : TS w (Z.alloc (Obj.cells cs.toArray T)) E b0 t o xs lv (L ++ [(Z.heap.size, cs)]) := by
  refine ⟨h.ti.on ((Below.refl _ _).alloc (Nat.le_refl _) _), h.hq.new cs T hc, fun q hq => ?_, h.ct, h.cl⟩
  rcases List.mem_append.1 hq with hq | hq
  · exact h.sep q hq
  · obtain rfl : q = (Z.heap.size, cs) := by simpa using hq
    exact ⟨Nat.ne_of_gt h.ti.lt, fun e => Nat.lt_irrefl _ (World.ownsRow.lt h.ti.own _ e).2⟩
theorem TS.put (h : TS w Z E b0 t o xs lv L) (i : Nat) {b : Nat} {cs : List Value} (hi : L[i]? = some (b, cs)) (p : Nat) (vs : List Value) (hp : p + vs.length ≤ cs.length) (hE : b ∈ E ∨ w.heap.size ≤ b) : TS w (Z.setCells b p vs) E b0 t o xs lv (L.set i (b, cput cs p vs)) := by
  have hs := h.sep _ (List.mem_of_getElem? hi)
  refine ⟨h.ti.far (heap_setCells b vs p Z t (Ne.symm hs.1)) (fun g hg => heap_setCells b vs p Z g (fun e => hs.2 (e ▸ hg))), h.hq.put i hi p vs hp hE, fun q hq => ?_, h.ct, h.cl⟩
  rcases List.mem_or_eq_of_mem_set hq with hq | hq
  · exact h.sep q hq
  · subst hq
    exact hs
theorem TS.tell (h : TS w Z E b0 t o xs lv L) (k : TP Z b0 t o xs ds lv lv' Y) : TS w Y E b0 t o (xs ++ ds) lv' L := by
  refine ⟨k.ti, h.hq.step k.fr (fun b hb => ?_) (fun q hq hb => ?_), fun q hq => ⟨(h.sep q hq).1, fun e => ?_⟩, h.ct, fun g hg => ?_⟩
  · rcases List.mem_cons.1 hb with rfl | hb
    · exact h.ct
    · exact h.cl b (by simpa using hb)
  · rcases List.mem_cons.1 hb with e | hb
    · exact (h.sep q hq).1 e
    · exact (h.sep q hq).2 (by simpa using hb)
  · rcases k.fre _ e with e | e
    · exact (h.sep q hq).2 e
    · have := h.hq.lt q hq
      omega
  · rcases k.fre _ hg with e | e
    · exact h.cl g e
    · exact .inr (Nat.le_trans h.hq.fr.size e)
theorem TS.left {M : List (Nat × List Value)} (h : TS w Z E b0 t o xs lv (L ++ M)) : TS w Z E b0 t o xs lv L := ⟨h.ti, h.hq.left, fun q hq => h.sep q (List.mem_append_left _ hq), h.ct, h.cl⟩
theorem TS.post {b0 t : Nat} {X : World} {o : Int} {xs ds : List DL} {lv lv' : Value} {L : List (Nat × List Value)} {Y : World} (h : TS X Y (t :: lv.ownBlock.toList) b0 t o (xs ++ ds) lv' L) : TP X b0 t o xs ds lv lv' Y :=
  ⟨h.ti, h.hq.fr, fun g hg => by
    rcases h.cl g hg with e | e
    · rcases List.mem_cons.1 e with rfl | e
      · exact absurd hg h.ti.apart
      · exact .inl (by simpa using e)
    · exact .inr e⟩
end
section
variable {ops : Array Oper} {rest : List Oper} {Q : Exit → Act → World → Prop} {w w0 : World} {a : Act} {o : Oper} {E : List Nat} {L : List (Nat × List Value)} {b0 t : Nat} {ob : Int} {xs : List DL} {lv : Value}
theorem bxT {v : Value} {x : Operand} (ty : TypeId) (cs : List Value) (hw : Region.wanted o (yielded ops a.tmps) = true) (ho : o.op = .box ty x) (hx : a.eval x = v) (hv : v.cells.toList = cs) (hc : 0 < cs.length) (hL : TS w0 w E b0 t ob xs lv L)
    (h : ∀ X B, B = w.heap.size → TS w0 X E b0 t ob xs lv (L ++ [(B, cs)]) → Below w.heap.size w X → wpList Tryd.prog ops Q rest (a.put o.dst (.pointer (some ⟨B, 0, none⟩))) X) : wpList Tryd.prog ops Q (o :: rest) a w := by
  refine BigFrame.wpList_want hw fun K hK => ?_
  have e : v.cells = cs.toArray := by rw [← hv]
  have hP := hK _ _ (h _ _ rfl (hL.new cs ty hc) ((Below.refl _ _).alloc (Nat.le_refl _) _))
  have e2 : (Instr.box ty v).run Tryd.prog w = .ok (.pointer (some ⟨w.heap.size, 0, none⟩)) (w.alloc (Obj.cells cs.toArray ty)) := by rw [← e]; rfl
  unfold Oper.wp execOp
  simp only [ho, hx]
  simp [e2]
  exact hP
theorem alT (ty : TypeId) (cs : List Value) (hw : Region.wanted o (yielded ops a.tmps) = true) (ho : o.op = .alloc ty) (hz : ∀ w, (zeroValue ty).run Tryd.prog w = .ok (.agg cs.toArray) w) (hc : 0 < cs.length) (hL : TS w0 w E b0 t ob xs lv L)
    (h : ∀ X B, B = w.heap.size → TS w0 X E b0 t ob xs lv (L ++ [(B, cs)]) → Below w.heap.size w X → wpList Tryd.prog ops Q rest (a.put o.dst (.pointer (some ⟨B, 0, none⟩))) X) : wpList Tryd.prog ops Q (o :: rest) a w := by
  refine BigFrame.wpList_want hw fun K hK => ?_
  have hP := hK _ _ (h _ _ rfl (hL.new cs ty hc) ((Below.refl _ _).alloc (Nat.le_refl _) _))
  unfold Oper.wp execOp
  simp only [ho]
  simp [go_sem, hz, Value.cells]
  exact hP
theorem stT {b p : Nat} {cs vs : List Value} {v : Value} {x y : Operand} (i : Nat) (ty : TypeId) (hw : Region.wanted o (yielded ops a.tmps) = true) (ho : o.op = .store ty x y) (hx : a.eval x = .pointer (some ⟨b, p, none⟩)) (hy : a.eval y = v)
    (hv : v.cells.toList = vs) (h1 : ∀ u ∈ vs, u.oneCell' = true) (hi : (Tryd.prog.info? ty).map (·.size) = some vs.length) (hL : TS w0 w E b0 t ob xs lv L) (hg : L[i]? = some (b, cs)) (hp : p + vs.length ≤ cs.length) (hE : b ∈ E ∨ w0.heap.size ≤ b)
    (h : ∀ X, TS w0 X E b0 t ob xs lv (L.set i (b, cput cs p vs)) → Fr w X [b] → wpList Tryd.prog ops Q rest (a.put o.dst undef) X) : wpList Tryd.prog ops Q (o :: rest) a w := by
  refine BigFrame.wpList_want hw fun K hK => ?_
  have hP := hK _ _ (h _ (hL.put i hg p vs hp hE) (Fr.setCells w b p vs))
  unfold Oper.wp execOp
  simp only [ho, hx, hy, Instr.storeAt, Instr.sureAddr, Sem.run_bind, Sem.run_pure, Result.andThen_ok, run_storeVar_any w b p ty v vs hv ((hL.hq.get i hg).there p vs.length hp) hi h1]
  exact hP
end
def zeroL : DL := ⟨0, 0, 0, false, zeroV, ⟨⟨#[]⟩, 0⟩, zeroD⟩
theorem infL : (Tryd.prog.info? 43).map (fun i => (i.zero, i.size, i.bytes)) = some (some zeroL.agg, 29, 272) := by kernel_rfl
theorem hold_grown {X Y : World} {t : Nat} {cs : List Value} {lv : Value} (h : Holds X t cs) (hl : t < X.heap.size) (hg : X.grownBy Y lv.ownBlock) (hn : lv.ownBlock ≠ some t) : Holds Y t cs := h.block (hg.block t hl (fun e => hn e.symm))
theorem tell_end {w Z Y : World} {E : List Nat} {b0 t : Nat} {o : Int} {xs : List DL} {d : DL} {lv : Value} {L : List (Nat × List Value)} {A : Option Addr} {c : Nat} (h : TS w Z E b0 t o xs lv L) (hL : ∀ q ∈ L, lv.ownBlock ≠ some q.1) (hg : Z.grownBy Y lv.ownBlock) (hO : Y.ownsRow b0 43 29 (.slice A (xs.length + 1) c) (xs.length + 1) (flatL xs ++ d.cs)) (hF : Fresh Z lv (.slice A (xs.length + 1) c)) :
    TS w (Y.setCells t 0 [.slice A (xs.length + 1) c]) E b0 t o (xs ++ [d]) (.slice A (xs.length + 1) c) L := by
  have hfr : Fr Z Y lv.ownBlock.toList := Fr.grown hg
  have hap : (Value.slice A (xs.length + 1) c).ownBlock ≠ some t := by
    intro e
    rcases hF with e2 | e2
    · exact h.ti.apart (e2 ▸ e)
    · have := h.ti.lt
      rw [e2] at e
      have := Option.some.inj e
      omega
  have hH : Holds Y t [lv, .int .i64 o] := hold_grown h.ti.hold h.ti.lt hg h.ti.apart
  have hP := hH.put 0 [.slice A (xs.length + 1) c] (by simp)
  have hne : ∀ g, g ≠ t → (Y.setCells t 0 [.slice A (xs.length + 1) c]).heap[g]? = Y.heap[g]? := fun g hg => heap_setCells t _ 0 Y g hg
  refine ⟨⟨hP, ?_, hap⟩, ?_, fun q hq => ⟨(h.sep q hq).1, fun e => ?_⟩, h.ct, fun g hg2 => ?_⟩
  · rw [flatL_snoc, List.length_append]
    exact own_blk hO (fun g hg2 => hne g (fun e => hap (e ▸ hg2)))
  · refine (h.hq.step hfr (fun b hb => h.cl b (by simpa using hb)) (fun q hq hb => hL q hq (by simpa using hb))).step (Fr.setCells Y t 0 _) (fun b hb => ?_) (fun q hq hb => ?_)
    · obtain rfl : b = t := by simpa using hb
      exact h.ct
    · exact (h.sep q hq).1 (by simpa using hb)
  · rcases hF with e2 | e2
    · exact hL q hq (e2 ▸ e)
    · have := h.hq.lt q hq
      rw [e2] at e
      have := Option.some.inj e
      omega
  · rcases hF with e2 | e2
    · exact h.cl g (e2 ▸ hg2)
    · rw [e2] at hg2
      obtain rfl := Option.some.inj hg2
      exact .inr h.hq.fr.size
set_option maxHeartbeats 2000000 in
set_option maxRecDepth 100000 in
theorem tell_any (d : DL) (b0 t : Nat) (o : Int) (xs : List DL) (lv : Value) (X : World) (hT : TI b0 X t o xs lv) (hx : xs.length ≤ 100000) (h0 : b0 ≤ X.heap.size) : Calls Tryd.prog 40 #[.pointer (some ⟨t, 0, none⟩), d.agg] X (TPost X b0 t o xs [⟨o, d.wh, d.n, d.y, d.v, d.k, d.d⟩] lv) := by
  unfold DL.agg
  have LL := hide (TS.start hT)
  have HX := hide hx
  have H0 := hide h0
  clear hT hx h0
  go_enter Tryd.func40, Tryd.ntmps40
  go_wp2_with (first | go_skip | ((with_reducible show wpList _ _ _ _ _ _); first | ((refine bxT 43 d.cs (by rfl) rfl rfl rfl (Nat.succ_pos _) (unhide LL) ?_); intro X1 B1 hE1 L1 hb1; have hB1 := hide (Nat.le_of_eq hE1.symm); replace LL := hide L1; clear L1 hb1 hE1; simp only [Act.put, List.setIfInBounds_toArray, List.set_cons_succ, List.set_cons_zero]) | ((refine rd (by rfl) (ex_load1 3 Tryd.isAgg3 rfl rfl ((unhide LL).ti.hold) rfl) ?_); simp only [Act.put, List.setIfInBounds_toArray, List.set_cons_succ, List.set_cons_zero]) | ((refine stT (vs := [.int .i64 o]) 0 3 (by rfl) rfl rfl rfl rfl (by simp [Value.oneCell']) szI (unhide LL) rfl (by simp [DL.cs, VV.cs, KK.cs, DD.cs]) (Or.inr (unhide hB1)) ?_); intro X2 L2 hf2; replace LL := hide L2; clear L2 hf2; simp only [Act.put, List.setIfInBounds_toArray, List.set_cons_succ, List.set_cons_zero])))
  have hs0 : TS X _ (t :: lv.ownBlock.toList) b0 t o xs lv [(B1, DL.cs ⟨o, d.wh, d.n, d.y, d.v, d.k, d.d⟩)] := (unhide LL).drew
  refine wp_region_held_drew (P := Tryd.prog) (S := fun _ => True) (by kernel_rfl) trivial (fun hS0 => ?_)
  refine gsem 0 (some 9) (.pointer (some ⟨t, 0, none⟩)) rfl (by kernel_rfl) (by kernel_rfl) (by kernel_rfl) (fun _ _ _ h => h) (by kernel_rfl) (by kernel_rfl) (fun _ _ => by kernel_rfl) trivial ?_
  simp only [Act.put, List.setIfInBounds_toArray, List.set_cons_succ, List.set_cons_zero]
  refine gsem 1 (some 10) (.pointer (some ⟨t, 0, none⟩)) rfl (by kernel_rfl) (by kernel_rfl) (by kernel_rfl) (fun _ _ _ h => h) (by kernel_rfl) (by kernel_rfl) (fun _ _ => by kernel_rfl) trivial ?_
  simp only [Act.put, List.setIfInBounds_toArray, List.set_cons_succ, List.set_cons_zero]
  refine gsem 2 (some 11) (.pointer (some ⟨t, 0, none⟩)) rfl (by kernel_rfl) (by kernel_rfl) (by kernel_rfl) (fun _ _ _ h => h) (by kernel_rfl) (by kernel_rfl) (fun _ _ => by kernel_rfl) trivial ?_
  simp only [Act.put, List.setIfInBounds_toArray, List.set_cons_succ, List.set_cons_zero]
  refine gsem 3 (some 12) (.pointer (some ⟨t, 0, none⟩)) rfl (by kernel_rfl) (by kernel_rfl) (by kernel_rfl) (fun _ _ _ h => h) (by kernel_rfl) (by kernel_rfl) (fun _ _ => by kernel_rfl) trivial ?_
  simp only [Act.put, List.setIfInBounds_toArray, List.set_cons_succ, List.set_cons_zero]
  refine wpAnyH_ready (rs := [4, 5]) (by kernel_rfl) (by simp) (gval 4 (some 13) rfl (by kernel_rfl) (by kernel_rfl) (ex_load1 25 Tryd.isAgg25 rfl rfl (hs0.ti.hold) rfl) trivial ?_ (gval 5 (some 14) rfl (by kernel_rfl) (by kernel_rfl) (ex_loadN (vs := DL.cs ⟨o, d.wh, d.n, d.y, d.v, d.k, d.d⟩) 43 29 rwL szL rfl rfl (hs0.hq.get 0 rfl) rfl rfl) trivial ?_ AllReadyH.nil))
  · simp only [Act.put, List.setIfInBounds_toArray, List.set_cons_succ, List.set_cons_zero]
    refine wpAnyH_ready (rs := [5]) (by kernel_rfl) (by simp) (gval 5 (some 14) rfl (by kernel_rfl) (by kernel_rfl) (ex_loadN (vs := DL.cs ⟨o, d.wh, d.n, d.y, d.v, d.k, d.d⟩) 43 29 rwL szL rfl rfl (hs0.hq.get 0 rfl) rfl rfl) trivial ?_ AllReadyH.nil)
    simp only [Act.put, List.setIfInBounds_toArray, List.set_cons_succ, List.set_cons_zero]
    refine wpAnyH_ready (rs := [6]) (by kernel_rfl) (by simp) (gval 6 (some 15) rfl (by kernel_rfl) (by kernel_rfl) (ex_buildS (cs := DL.cs ⟨o, d.wh, d.n, d.y, d.v, d.k, d.d⟩) rfl rfl Tryd.underlying25 infL (by decide) rfl rfl (by decide)) trivial ?_ AllReadyH.nil)
    simp only [Act.put, List.setIfInBounds_toArray, List.set_cons_succ, List.set_cons_zero]
    have hs6 := hs0.new (DL.cs ⟨o, d.wh, d.n, d.y, d.v, d.k, d.d⟩) 43 (Nat.succ_pos _)
    refine wpAnyH_ready (rs := [7]) (by kernel_rfl) (by simp) (gappF (base := b0) (size := 29) (bytes := 272) (k := xs.length) (m := 1) (news := DL.cs ⟨o, d.wh, d.n, d.y, d.v, d.k, d.d⟩) (xs := flatL xs) (v := lv) 7 (some 16) rfl (by kernel_rfl) (by kernel_rfl) rfl rfl rfl Tryd.underlying25 infL rfl (by decide) hs6.ti.own (hs6.hq.get 1 rfl) rfl (dlcs_one _) (by have := unhide HX; omega) (by decide) (Nat.le_trans (unhide H0) hs6.hq.fr.size) (fun _ _ => trivial) ?_ AllReadyH.nil)
    intro A6 c6 X6 hO6 hg6 hF6
    simp only [Act.put, List.setIfInBounds_toArray, List.set_cons_succ, List.set_cons_zero]
    refine gsem 8 (some 17) (.pointer (some ⟨t, 0, none⟩)) rfl (by kernel_rfl) (by kernel_rfl) (by kernel_rfl) (fun _ _ _ h => h) (by kernel_rfl) (by kernel_rfl) (fun _ _ => by kernel_rfl) trivial ?_
    simp only [Act.put, List.setIfInBounds_toArray, List.set_cons_succ, List.set_cons_zero]
    refine gsem 9 (some 18) (.pointer (some ⟨t, 0, none⟩)) rfl (by kernel_rfl) (by kernel_rfl) (by kernel_rfl) (fun _ _ _ h => h) (by kernel_rfl) (by kernel_rfl) (fun _ _ => by kernel_rfl) trivial ?_
    simp only [Act.put, List.setIfInBounds_toArray, List.set_cons_succ, List.set_cons_zero]
    refine wpAnyH_ready (rs := [10]) (by kernel_rfl) (by simp) (gskp 10 none rfl (by kernel_rfl) (by kernel_rfl) (ex_store (t := 25) (vs := [.slice A6 (xs.length + 1) c6]) rfl rfl rfl rfl (by simp [Value.oneCell']) szLs (hold_grown hs6.ti.hold hs6.ti.lt hg6 hs6.ti.apart) (by simp)) trivial ?_ AllReadyH.nil)
    simp only [Act.put, List.setIfInBounds_toArray, List.set_cons_succ, List.set_cons_zero]
    have hfin := tell_end hs6 (fun q hq => (hs6.sep q hq).2) hg6 hO6 hF6
    refine wpAnyH_done (by kernel_rfl) ?_ _
    try simp only [Act.put, List.setIfInBounds_toArray, List.set_cons_succ, List.set_cons_zero]
    go_wp2
    go_end0
    exact ⟨_, rfl, hfin.post⟩
  · simp only [Act.put, List.setIfInBounds_toArray, List.set_cons_succ, List.set_cons_zero]
    refine wpAnyH_ready (rs := [4, 6]) (by kernel_rfl) (by simp) (gval 4 (some 13) rfl (by kernel_rfl) (by kernel_rfl) (ex_load1 25 Tryd.isAgg25 rfl rfl (hs0.ti.hold) rfl) trivial ?_ (gval 6 (some 15) rfl (by kernel_rfl) (by kernel_rfl) (ex_buildS (cs := DL.cs ⟨o, d.wh, d.n, d.y, d.v, d.k, d.d⟩) rfl rfl Tryd.underlying25 infL (by decide) rfl rfl (by decide)) trivial ?_ AllReadyH.nil))
    · simp only [Act.put, List.setIfInBounds_toArray, List.set_cons_succ, List.set_cons_zero]
      refine wpAnyH_ready (rs := [6]) (by kernel_rfl) (by simp) (gval 6 (some 15) rfl (by kernel_rfl) (by kernel_rfl) (ex_buildS (cs := DL.cs ⟨o, d.wh, d.n, d.y, d.v, d.k, d.d⟩) rfl rfl Tryd.underlying25 infL (by decide) rfl rfl (by decide)) trivial ?_ AllReadyH.nil)
      simp only [Act.put, List.setIfInBounds_toArray, List.set_cons_succ, List.set_cons_zero]
      have hs6 := hs0.new (DL.cs ⟨o, d.wh, d.n, d.y, d.v, d.k, d.d⟩) 43 (Nat.succ_pos _)
      refine wpAnyH_ready (rs := [7]) (by kernel_rfl) (by simp) (gappF (base := b0) (size := 29) (bytes := 272) (k := xs.length) (m := 1) (news := DL.cs ⟨o, d.wh, d.n, d.y, d.v, d.k, d.d⟩) (xs := flatL xs) (v := lv) 7 (some 16) rfl (by kernel_rfl) (by kernel_rfl) rfl rfl rfl Tryd.underlying25 infL rfl (by decide) hs6.ti.own (hs6.hq.get 1 rfl) rfl (dlcs_one _) (by have := unhide HX; omega) (by decide) (Nat.le_trans (unhide H0) hs6.hq.fr.size) (fun _ _ => trivial) ?_ AllReadyH.nil)
      intro A6 c6 X6 hO6 hg6 hF6
      simp only [Act.put, List.setIfInBounds_toArray, List.set_cons_succ, List.set_cons_zero]
      refine gsem 8 (some 17) (.pointer (some ⟨t, 0, none⟩)) rfl (by kernel_rfl) (by kernel_rfl) (by kernel_rfl) (fun _ _ _ h => h) (by kernel_rfl) (by kernel_rfl) (fun _ _ => by kernel_rfl) trivial ?_
      simp only [Act.put, List.setIfInBounds_toArray, List.set_cons_succ, List.set_cons_zero]
      refine gsem 9 (some 18) (.pointer (some ⟨t, 0, none⟩)) rfl (by kernel_rfl) (by kernel_rfl) (by kernel_rfl) (fun _ _ _ h => h) (by kernel_rfl) (by kernel_rfl) (fun _ _ => by kernel_rfl) trivial ?_
      simp only [Act.put, List.setIfInBounds_toArray, List.set_cons_succ, List.set_cons_zero]
      refine wpAnyH_ready (rs := [10]) (by kernel_rfl) (by simp) (gskp 10 none rfl (by kernel_rfl) (by kernel_rfl) (ex_store (t := 25) (vs := [.slice A6 (xs.length + 1) c6]) rfl rfl rfl rfl (by simp [Value.oneCell']) szLs (hold_grown hs6.ti.hold hs6.ti.lt hg6 hs6.ti.apart) (by simp)) trivial ?_ AllReadyH.nil)
      simp only [Act.put, List.setIfInBounds_toArray, List.set_cons_succ, List.set_cons_zero]
      have hfin := tell_end hs6 (fun q hq => (hs6.sep q hq).2) hg6 hO6 hF6
      refine wpAnyH_done (by kernel_rfl) ?_ _
      try simp only [Act.put, List.setIfInBounds_toArray, List.set_cons_succ, List.set_cons_zero]
      go_wp2
      go_end0
      exact ⟨_, rfl, hfin.post⟩
    · simp only [Act.put, List.setIfInBounds_toArray, List.set_cons_succ, List.set_cons_zero]
      have hs6 := hs0.new (DL.cs ⟨o, d.wh, d.n, d.y, d.v, d.k, d.d⟩) 43 (Nat.succ_pos _)
      refine wpAnyH_ready (rs := [4]) (by kernel_rfl) (by simp) (gval 4 (some 13) rfl (by kernel_rfl) (by kernel_rfl) (ex_load1 25 Tryd.isAgg25 rfl rfl (hs6.ti.hold) rfl) trivial ?_ AllReadyH.nil)
      simp only [Act.put, List.setIfInBounds_toArray, List.set_cons_succ, List.set_cons_zero]
      refine wpAnyH_ready (rs := [7]) (by kernel_rfl) (by simp) (gappF (base := b0) (size := 29) (bytes := 272) (k := xs.length) (m := 1) (news := DL.cs ⟨o, d.wh, d.n, d.y, d.v, d.k, d.d⟩) (xs := flatL xs) (v := lv) 7 (some 16) rfl (by kernel_rfl) (by kernel_rfl) rfl rfl rfl Tryd.underlying25 infL rfl (by decide) hs6.ti.own (hs6.hq.get 1 rfl) rfl (dlcs_one _) (by have := unhide HX; omega) (by decide) (Nat.le_trans (unhide H0) hs6.hq.fr.size) (fun _ _ => trivial) ?_ AllReadyH.nil)
      intro A6 c6 X6 hO6 hg6 hF6
      simp only [Act.put, List.setIfInBounds_toArray, List.set_cons_succ, List.set_cons_zero]
      refine gsem 8 (some 17) (.pointer (some ⟨t, 0, none⟩)) rfl (by kernel_rfl) (by kernel_rfl) (by kernel_rfl) (fun _ _ _ h => h) (by kernel_rfl) (by kernel_rfl) (fun _ _ => by kernel_rfl) trivial ?_
      simp only [Act.put, List.setIfInBounds_toArray, List.set_cons_succ, List.set_cons_zero]
      refine gsem 9 (some 18) (.pointer (some ⟨t, 0, none⟩)) rfl (by kernel_rfl) (by kernel_rfl) (by kernel_rfl) (fun _ _ _ h => h) (by kernel_rfl) (by kernel_rfl) (fun _ _ => by kernel_rfl) trivial ?_
      simp only [Act.put, List.setIfInBounds_toArray, List.set_cons_succ, List.set_cons_zero]
      refine wpAnyH_ready (rs := [10]) (by kernel_rfl) (by simp) (gskp 10 none rfl (by kernel_rfl) (by kernel_rfl) (ex_store (t := 25) (vs := [.slice A6 (xs.length + 1) c6]) rfl rfl rfl rfl (by simp [Value.oneCell']) szLs (hold_grown hs6.ti.hold hs6.ti.lt hg6 hs6.ti.apart) (by simp)) trivial ?_ AllReadyH.nil)
      simp only [Act.put, List.setIfInBounds_toArray, List.set_cons_succ, List.set_cons_zero]
      have hfin := tell_end hs6 (fun q hq => (hs6.sep q hq).2) hg6 hO6 hF6
      refine wpAnyH_done (by kernel_rfl) ?_ _
      try simp only [Act.put, List.setIfInBounds_toArray, List.set_cons_succ, List.set_cons_zero]
      go_wp2
      go_end0
      exact ⟨_, rfl, hfin.post⟩
end Go.Proofs.YtcflglloopgieaaDoor

/-! Io -/
namespace Go.Proofs.YtcflglloopgieaaDoor
open Go Go.Proofs Go.Maps Go.RowKit FM
set_option linter.unusedSimpArgs false
set_option linter.unusedVariables false
set_option maxHeartbeats 1000000
def SV (v : VV) : Prop := v.s.size ≤ 281474976710656
def SD (d : DD) : Prop := SV d.v ∧ SV d.g ∧ SV d.s
def SP (p : PR) : Prop := p.k.s.size ≤ 281474976710656 ∧ SD p.d
def SS (s : SH) : Prop := SV s.p ∧ ∀ p ∈ s.ps, SP p
theorem clone_big (s : ByteArray) (w : World) (h : s.size ≤ 281474976710656) : Calls Tryd.prog 59 #[.string s] w fun e w' => e = .returned (.string s) ∧ Below w.heap.size w w' := by
  have HC := hide (Tryd.stringslite_Clone s w h)
  clear h
  go_enter Tryd.func59, Tryd.ntmps59
  go_wp2_with fail
  refine (unhide HC).mono ?_
  rintro e w' ⟨rfl, hb⟩
  go_wp2
  go_ret
  exact ⟨rfl, hb⟩
theorem szStr : (Tryd.prog.info? 9).map (·.size) = some 1 := by kernel_rfl
theorem kcs_one (k : KK) : ∀ u ∈ k.cs, u.oneCell' = true := by simp [KK.cs, Value.oneCell']
theorem dcs_one (d : DD) : ∀ u ∈ d.cs, u.oneCell' = true := by simp [DD.cs, Value.oneCell']
def zeroK : KK := ⟨⟨#[]⟩, 0⟩
set_option maxRecDepth 100000 in
theorem newKey_any (k : KK) (w : World) (h : k.s.size ≤ 281474976710656) : Calls Tryd.prog 62 #[k.agg] w fun e w' => e = .returned (k.agg) ∧ Below w.heap.size w w' := by
  have LL := hide (Hq.nil w [])
  have HC := hide (fun w => clone_big k.s w h)
  clear h
  simp only [kagg]
  go_enter Tryd.func62, Tryd.ntmps62
  go_wp2_with (first | go_skip | ((with_reducible show wpList _ _ _ _ _ _); first | ((refine bx 38 (k.cs) (by rfl) rfl rfl rfl (Nat.succ_pos _) (unhide LL) ?_); intro X1 B1 hE1 L1 hb1; have hB1 := hide (Nat.le_trans (unhide LL).fr.size (Nat.le_of_eq hE1.symm)); replace LL := hide L1; clear L1 hb1 hE1; simp only [Act.put, List.setIfInBounds_toArray, List.set_cons_succ, List.set_cons_zero]) | ((refine alG 38 (zeroK.cs) (by rfl) rfl (fun w => by kernel_rfl) (Nat.succ_pos _) (unhide LL) ?_); intro X2 B2 hE2 L2 hb2; have hB2 := hide (Nat.le_trans (unhide LL).fr.size (Nat.le_of_eq hE2.symm)); replace LL := hide L2; clear L2 hb2 hE2; simp only [Act.put, List.setIfInBounds_toArray, List.set_cons_succ, List.set_cons_zero]) | ((refine rd (by rfl) (ex_load1 9 Tryd.isAgg9 rfl rfl ((unhide LL).get 0 rfl) rfl) ?_); simp only [Act.put, List.setIfInBounds_toArray, List.set_cons_succ, List.set_cons_zero]) | ((refine rd (by rfl) (ex_loadN (vs := k.cs) 38 2 rwK szK rfl rfl ((unhide LL).get 0 rfl) rfl rfl) ?_); simp only [Act.put, List.setIfInBounds_toArray, List.set_cons_succ, List.set_cons_zero]) | ((refine st (vs := [.string k.s]) 0 9 (by rfl) rfl rfl rfl rfl (by simp [Value.oneCell']) szStr (unhide LL) rfl (by simp [VV.cs, KK.cs]) (Or.inr (unhide hB1)) ?_); intro X3 L3 hf3 hs3; replace LL := hide L3; clear L3 hf3 hs3; simp only [Act.put, List.setIfInBounds_toArray, List.set_cons_succ, List.set_cons_zero]) | ((refine st (vs := k.cs) 1 38 (by rfl) rfl rfl rfl rfl (kcs_one k) szK (unhide LL) rfl (by simp [VV.cs, KK.cs, zeroV]) (Or.inr (unhide hB2)) ?_); intro X4 L4 hf4 hs4; replace LL := hide L4; clear L4 hf4 hs4; simp only [Act.put, List.setIfInBounds_toArray, List.set_cons_succ, List.set_cons_zero])))
  refine (unhide HC _).mono ?_
  rintro e w' ⟨rfl, hb⟩
  replace LL := hide ((unhide LL).on hb)
  clear hb
  go_wp2_with (first | go_skip | ((with_reducible show wpList _ _ _ _ _ _); first | ((refine bx 38 (k.cs) (by rfl) rfl rfl rfl (Nat.succ_pos _) (unhide LL) ?_); intro X1 B1 hE1 L1 hb1; have hB1 := hide (Nat.le_trans (unhide LL).fr.size (Nat.le_of_eq hE1.symm)); replace LL := hide L1; clear L1 hb1 hE1; simp only [Act.put, List.setIfInBounds_toArray, List.set_cons_succ, List.set_cons_zero]) | ((refine alG 38 (zeroK.cs) (by rfl) rfl (fun w => by kernel_rfl) (Nat.succ_pos _) (unhide LL) ?_); intro X2 B2 hE2 L2 hb2; have hB2 := hide (Nat.le_trans (unhide LL).fr.size (Nat.le_of_eq hE2.symm)); replace LL := hide L2; clear L2 hb2 hE2; simp only [Act.put, List.setIfInBounds_toArray, List.set_cons_succ, List.set_cons_zero]) | ((refine rd (by rfl) (ex_load1 9 Tryd.isAgg9 rfl rfl ((unhide LL).get 0 rfl) rfl) ?_); simp only [Act.put, List.setIfInBounds_toArray, List.set_cons_succ, List.set_cons_zero]) | ((refine rd (by rfl) (ex_loadN (vs := k.cs) 38 2 rwK szK rfl rfl ((unhide LL).get 0 rfl) rfl rfl) ?_); simp only [Act.put, List.setIfInBounds_toArray, List.set_cons_succ, List.set_cons_zero]) | ((refine st (vs := [.string k.s]) 0 9 (by rfl) rfl rfl rfl rfl (by simp [Value.oneCell']) szStr (unhide LL) rfl (by simp [VV.cs, KK.cs]) (Or.inr (unhide hB1)) ?_); intro X3 L3 hf3 hs3; replace LL := hide L3; clear L3 hf3 hs3; simp only [Act.put, List.setIfInBounds_toArray, List.set_cons_succ, List.set_cons_zero]) | ((refine st (vs := k.cs) 1 38 (by rfl) rfl rfl rfl rfl (kcs_one k) szK (unhide LL) rfl (by simp [VV.cs, KK.cs, zeroV]) (Or.inr (unhide hB2)) ?_); intro X4 L4 hf4 hs4; replace LL := hide L4; clear L4 hf4 hs4; simp only [Act.put, List.setIfInBounds_toArray, List.set_cons_succ, List.set_cons_zero])))
  refine ret_c (cs := k.cs) rwK szK rfl rfl rfl ((unhide LL).get 1 rfl) rfl ?_
  exact ⟨rfl, (unhide LL).fr.below⟩
set_option maxRecDepth 100000 in
theorem newValue_any (v : VV) (w : World) (h : v.s.size ≤ 281474976710656) : Calls Tryd.prog 42 #[v.agg] w fun e w' => e = .returned (v.agg) ∧ Below w.heap.size w w' := by
  have LL := hide (Hq.nil w [])
  have HC := hide (fun w => clone_big v.s w h)
  clear h
  simp only [vagg]
  go_enter Tryd.func42, Tryd.ntmps42
  go_wp2_with (first | go_skip | ((with_reducible show wpList _ _ _ _ _ _); first | ((refine bx 36 (v.cs) (by rfl) rfl rfl rfl (Nat.succ_pos _) (unhide LL) ?_); intro X1 B1 hE1 L1 hb1; have hB1 := hide (Nat.le_trans (unhide LL).fr.size (Nat.le_of_eq hE1.symm)); replace LL := hide L1; clear L1 hb1 hE1; simp only [Act.put, List.setIfInBounds_toArray, List.set_cons_succ, List.set_cons_zero]) | ((refine alG 36 (zeroV.cs) (by rfl) rfl (fun w => by kernel_rfl) (Nat.succ_pos _) (unhide LL) ?_); intro X2 B2 hE2 L2 hb2; have hB2 := hide (Nat.le_trans (unhide LL).fr.size (Nat.le_of_eq hE2.symm)); replace LL := hide L2; clear L2 hb2 hE2; simp only [Act.put, List.setIfInBounds_toArray, List.set_cons_succ, List.set_cons_zero]) | ((refine rd (by rfl) (ex_load1 9 Tryd.isAgg9 rfl rfl ((unhide LL).get 0 rfl) rfl) ?_); simp only [Act.put, List.setIfInBounds_toArray, List.set_cons_succ, List.set_cons_zero]) | ((refine rd (by rfl) (ex_loadN (vs := v.cs) 36 5 rwV szV rfl rfl ((unhide LL).get 0 rfl) rfl rfl) ?_); simp only [Act.put, List.setIfInBounds_toArray, List.set_cons_succ, List.set_cons_zero]) | ((refine st (vs := [.string v.s]) 0 9 (by rfl) rfl rfl rfl rfl (by simp [Value.oneCell']) szStr (unhide LL) rfl (by simp [VV.cs, KK.cs]) (Or.inr (unhide hB1)) ?_); intro X3 L3 hf3 hs3; replace LL := hide L3; clear L3 hf3 hs3; simp only [Act.put, List.setIfInBounds_toArray, List.set_cons_succ, List.set_cons_zero]) | ((refine st (vs := v.cs) 1 36 (by rfl) rfl rfl rfl rfl (vcs_one v) szV (unhide LL) rfl (by simp [VV.cs, KK.cs, zeroV]) (Or.inr (unhide hB2)) ?_); intro X4 L4 hf4 hs4; replace LL := hide L4; clear L4 hf4 hs4; simp only [Act.put, List.setIfInBounds_toArray, List.set_cons_succ, List.set_cons_zero])))
  refine (unhide HC _).mono ?_
  rintro e w' ⟨rfl, hb⟩
  replace LL := hide ((unhide LL).on hb)
  clear hb
  go_wp2_with (first | go_skip | ((with_reducible show wpList _ _ _ _ _ _); first | ((refine bx 36 (v.cs) (by rfl) rfl rfl rfl (Nat.succ_pos _) (unhide LL) ?_); intro X1 B1 hE1 L1 hb1; have hB1 := hide (Nat.le_trans (unhide LL).fr.size (Nat.le_of_eq hE1.symm)); replace LL := hide L1; clear L1 hb1 hE1; simp only [Act.put, List.setIfInBounds_toArray, List.set_cons_succ, List.set_cons_zero]) | ((refine alG 36 (zeroV.cs) (by rfl) rfl (fun w => by kernel_rfl) (Nat.succ_pos _) (unhide LL) ?_); intro X2 B2 hE2 L2 hb2; have hB2 := hide (Nat.le_trans (unhide LL).fr.size (Nat.le_of_eq hE2.symm)); replace LL := hide L2; clear L2 hb2 hE2; simp only [Act.put, List.setIfInBounds_toArray, List.set_cons_succ, List.set_cons_zero]) | ((refine rd (by rfl) (ex_load1 9 Tryd.isAgg9 rfl rfl ((unhide LL).get 0 rfl) rfl) ?_); simp only [Act.put, List.setIfInBounds_toArray, List.set_cons_succ, List.set_cons_zero]) | ((refine rd (by rfl) (ex_loadN (vs := v.cs) 36 5 rwV szV rfl rfl ((unhide LL).get 0 rfl) rfl rfl) ?_); simp only [Act.put, List.setIfInBounds_toArray, List.set_cons_succ, List.set_cons_zero]) | ((refine st (vs := [.string v.s]) 0 9 (by rfl) rfl rfl rfl rfl (by simp [Value.oneCell']) szStr (unhide LL) rfl (by simp [VV.cs, KK.cs]) (Or.inr (unhide hB1)) ?_); intro X3 L3 hf3 hs3; replace LL := hide L3; clear L3 hf3 hs3; simp only [Act.put, List.setIfInBounds_toArray, List.set_cons_succ, List.set_cons_zero]) | ((refine st (vs := v.cs) 1 36 (by rfl) rfl rfl rfl rfl (vcs_one v) szV (unhide LL) rfl (by simp [VV.cs, KK.cs, zeroV]) (Or.inr (unhide hB2)) ?_); intro X4 L4 hf4 hs4; replace LL := hide L4; clear L4 hf4 hs4; simp only [Act.put, List.setIfInBounds_toArray, List.set_cons_succ, List.set_cons_zero])))
  refine ret_c (cs := v.cs) rwV szV rfl rfl rfl ((unhide LL).get 1 rfl) rfl ?_
  exact ⟨rfl, (unhide LL).fr.below⟩
set_option maxHeartbeats 2000000 in
set_option maxRecDepth 100000 in
theorem newDesc_any (d : DD) (w : World) (h : SD d) : Calls Tryd.prog 63 #[d.agg] w fun e w' => e = .returned (d.agg) ∧ Below w.heap.size w w' := by
  have LL := hide (Hq.nil w [])
  have hv := fun w => newValue_any d.v w h.1
  have hg := fun w => newValue_any d.g w h.2.1
  have hs := fun w => newValue_any d.s w h.2.2
  simp only [vagg] at hv hg hs
  simp only [dagg]
  go_enter Tryd.func63, Tryd.ntmps63
  go_wp2_with (first | go_skip | ((with_reducible show wpList _ _ _ _ _ _); first | ((refine bx 41 (d.cs) (by rfl) rfl rfl rfl (Nat.succ_pos _) (unhide LL) ?_); intro X1 B1 hE1 L1 hb1; have hB1 := hide (Nat.le_trans (unhide LL).fr.size (Nat.le_of_eq hE1.symm)); replace LL := hide L1; clear L1 hb1 hE1; simp only [Act.put, List.setIfInBounds_toArray, List.set_cons_succ, List.set_cons_zero]) | ((refine alG 41 (zeroD.cs) (by rfl) rfl (fun w => by kernel_rfl) (Nat.succ_pos _) (unhide LL) ?_); intro X2 B2 hE2 L2 hb2; have hB2 := hide (Nat.le_trans (unhide LL).fr.size (Nat.le_of_eq hE2.symm)); replace LL := hide L2; clear L2 hb2 hE2; simp only [Act.put, List.setIfInBounds_toArray, List.set_cons_succ, List.set_cons_zero])))
  have hq0 : Hq w _ [] [(B1, d.cs), (B2, zeroD.cs)] := (unhide LL).drew
  refine wp_region_held_drew (P := Tryd.prog) (S := fun X => Hq w X [] [(B1, d.cs), (B2, zeroD.cs)]) (by kernel_rfl) hq0 (fun hS0 => ?_)
  refine gsem 0 (some 3) (.pointer (some ⟨B1, 0, none⟩)) rfl (by kernel_rfl) (by kernel_rfl) (by kernel_rfl) (fun _ _ _ h => h) (by kernel_rfl) (by kernel_rfl) (fun _ _ => by kernel_rfl) hq0 ?_
  simp only [Act.put, List.setIfInBounds_toArray, List.set_cons_succ, List.set_cons_zero]
  refine gsem 1 (some 4) (.agg d.v.cs.toArray) rfl (by kernel_rfl) (by kernel_rfl) (by kernel_rfl) (fun _ _ _ h => h) (by kernel_rfl) (by kernel_rfl) (fun X hX => ex_loadN (vs := d.v.cs) 36 5 rwV szV rfl rfl (hX.get 0 rfl) rfl rfl) hq0 ?_
  simp only [Act.put, List.setIfInBounds_toArray, List.set_cons_succ, List.set_cons_zero]
  refine gsem 3 (some 6) (.pointer (some ⟨B1, 5, none⟩)) rfl (by kernel_rfl) (by kernel_rfl) (by kernel_rfl) (fun _ _ _ h => h) (by kernel_rfl) (by kernel_rfl) (fun _ _ => by kernel_rfl) hq0 ?_
  simp only [Act.put, List.setIfInBounds_toArray, List.set_cons_succ, List.set_cons_zero]
  refine gsem 4 (some 7) (.agg d.g.cs.toArray) rfl (by kernel_rfl) (by kernel_rfl) (by kernel_rfl) (fun _ _ _ h => h) (by kernel_rfl) (by kernel_rfl) (fun X hX => ex_loadN (vs := d.g.cs) 36 5 rwV szV rfl rfl (hX.get 0 rfl) rfl rfl) hq0 ?_
  simp only [Act.put, List.setIfInBounds_toArray, List.set_cons_succ, List.set_cons_zero]
  refine gsem 6 (some 9) (.pointer (some ⟨B1, 10, none⟩)) rfl (by kernel_rfl) (by kernel_rfl) (by kernel_rfl) (fun _ _ _ h => h) (by kernel_rfl) (by kernel_rfl) (fun _ _ => by kernel_rfl) hq0 ?_
  simp only [Act.put, List.setIfInBounds_toArray, List.set_cons_succ, List.set_cons_zero]
  refine gsem 7 (some 10) (.agg d.s.cs.toArray) rfl (by kernel_rfl) (by kernel_rfl) (by kernel_rfl) (fun _ _ _ h => h) (by kernel_rfl) (by kernel_rfl) (fun X hX => ex_loadN (vs := d.s.cs) 36 5 rwV szV rfl rfl (hX.get 0 rfl) rfl rfl) hq0 ?_
  simp only [Act.put, List.setIfInBounds_toArray, List.set_cons_succ, List.set_cons_zero]
  refine wpAnyH_ready (rs := [2]) (by kernel_rfl) (by simp) (gcallR 2 (some 5) rfl (by kernel_rfl) (by kernel_rfl) (by kernel_rfl) (hv _) ?_ AllReadyH.nil)
  rintro e Y2 ⟨rfl, hY2⟩
  have hq02 := Hq.on hq0 hY2
  refine ⟨_, rfl, hq02, ?_⟩
  simp only [Act.put, List.setIfInBounds_toArray, List.set_cons_succ, List.set_cons_zero]
  refine gsem 9 (some 12) (.pointer (some ⟨B1, 0, none⟩)) rfl (by kernel_rfl) (by kernel_rfl) (by kernel_rfl) (fun _ _ _ h => h) (by kernel_rfl) (by kernel_rfl) (fun _ _ => by kernel_rfl) hq02 ?_
  simp only [Act.put, List.setIfInBounds_toArray, List.set_cons_succ, List.set_cons_zero]
  refine wpAnyH_ready (rs := [5]) (by kernel_rfl) (by simp) (gcallR 5 (some 8) rfl (by kernel_rfl) (by kernel_rfl) (by kernel_rfl) (hg _) ?_ AllReadyH.nil)
  rintro e Y5 ⟨rfl, hY5⟩
  have hq05 := Hq.on hq02 hY5
  refine ⟨_, rfl, hq05, ?_⟩
  simp only [Act.put, List.setIfInBounds_toArray, List.set_cons_succ, List.set_cons_zero]
  refine wpAnyH_ready (rs := [8]) (by kernel_rfl) (by simp) (gcallR 8 (some 11) rfl (by kernel_rfl) (by kernel_rfl) (by kernel_rfl) (hs _) ?_ AllReadyH.nil)
  rintro e Y8 ⟨rfl, hY8⟩
  have hq08 := Hq.on hq05 hY8
  refine ⟨_, rfl, hq08, ?_⟩
  simp only [Act.put, List.setIfInBounds_toArray, List.set_cons_succ, List.set_cons_zero]
  refine wpAnyH_ready (rs := [10]) (by kernel_rfl) (by simp) (gskp 10 none rfl (by kernel_rfl) (by kernel_rfl) (ex_store (t := 36) (vs := d.v.cs) rfl rfl rfl rfl (vcs_one _) szV (hq08.get 0 rfl) (by simp [DD.cs, VV.cs])) (hq08.put 0 rfl 0 d.v.cs (by simp [DD.cs, VV.cs]) (.inr (unhide hB1))) ?_ AllReadyH.nil)
  have hqa : Hq w _ [] [(B1, d.cs), (B2, zeroD.cs)] := hq08.put 0 rfl 0 d.v.cs (by simp [DD.cs, VV.cs]) (.inr (unhide hB1))
  simp only [Act.put, List.setIfInBounds_toArray, List.set_cons_succ, List.set_cons_zero]
  refine gsem 11 (some 13) (.pointer (some ⟨B1, 5, none⟩)) rfl (by kernel_rfl) (by kernel_rfl) (by kernel_rfl) (fun _ _ _ h => h) (by kernel_rfl) (by kernel_rfl) (fun _ _ => by kernel_rfl) hqa ?_
  simp only [Act.put, List.setIfInBounds_toArray, List.set_cons_succ, List.set_cons_zero]
  refine wpAnyH_ready (rs := [12]) (by kernel_rfl) (by simp) (gskp 12 none rfl (by kernel_rfl) (by kernel_rfl) (ex_store (t := 36) (vs := d.g.cs) rfl rfl rfl rfl (vcs_one _) szV (hqa.get 0 rfl) (by simp [DD.cs, VV.cs])) (hqa.put 0 rfl 5 d.g.cs (by simp [DD.cs, VV.cs]) (.inr (unhide hB1))) ?_ AllReadyH.nil)
  have hqb : Hq w _ [] [(B1, d.cs), (B2, zeroD.cs)] := hqa.put 0 rfl 5 d.g.cs (by simp [DD.cs, VV.cs]) (.inr (unhide hB1))
  simp only [Act.put, List.setIfInBounds_toArray, List.set_cons_succ, List.set_cons_zero]
  refine gsem 13 (some 14) (.pointer (some ⟨B1, 10, none⟩)) rfl (by kernel_rfl) (by kernel_rfl) (by kernel_rfl) (fun _ _ _ h => h) (by kernel_rfl) (by kernel_rfl) (fun _ _ => by kernel_rfl) hqb ?_
  simp only [Act.put, List.setIfInBounds_toArray, List.set_cons_succ, List.set_cons_zero]
  refine wpAnyH_ready (rs := [14]) (by kernel_rfl) (by simp) (gskp 14 none rfl (by kernel_rfl) (by kernel_rfl) (ex_store (t := 36) (vs := d.s.cs) rfl rfl rfl rfl (vcs_one _) szV (hqb.get 0 rfl) (by simp [DD.cs, VV.cs])) (hqb.put 0 rfl 10 d.s.cs (by simp [DD.cs, VV.cs]) (.inr (unhide hB1))) ?_ AllReadyH.nil)
  have hqc : Hq w _ [] [(B1, d.cs), (B2, zeroD.cs)] := hqb.put 0 rfl 10 d.s.cs (by simp [DD.cs, VV.cs]) (.inr (unhide hB1))
  simp only [Act.put, List.setIfInBounds_toArray, List.set_cons_succ, List.set_cons_zero]
  refine wpAnyH_done (by kernel_rfl) ?_ _
  try simp only [Act.put, List.setIfInBounds_toArray, List.set_cons_succ, List.set_cons_zero]
  replace LL := hide hqc
  clear hqa hqb hqc hq0 hq02 hq05 hq08 hS0 hv hg hs hY2 hY5 hY8 h
  go_wp2_with (first | go_skip | ((with_reducible show wpList _ _ _ _ _ _); first | ((refine rd (by rfl) (ex_loadN (vs := d.cs) 41 18 rwD szD rfl rfl ((unhide LL).get 0 rfl) rfl rfl) ?_); simp only [Act.put, List.setIfInBounds_toArray, List.set_cons_succ, List.set_cons_zero]) | ((refine st (vs := d.cs) 1 41 (by rfl) rfl rfl rfl rfl (dcs_one d) szD (unhide LL) rfl (by simp [DD.cs, zeroD]) (Or.inr (unhide hB2)) ?_); intro X4 L4 hf4 hs4; replace LL := hide L4; clear L4 hf4 hs4; simp only [Act.put, List.setIfInBounds_toArray, List.set_cons_succ, List.set_cons_zero])))
  refine ret_c (cs := d.cs) rwD szD rfl rfl rfl ((unhide LL).get 1 rfl) rfl ?_
  exact ⟨rfl, (unhide LL).fr.below⟩
def putL (o : Int) (p : PR) : DL := ⟨o, 6, 0, false, zeroV, p.k, p.d⟩
def goneL (o : Int) (k : KK) : DL := ⟨o, 5, 0, false, zeroV, k, zeroD⟩
def makeL (o : Int) (s : SH) : DL := ⟨o, 1, s.c, s.x, s.p, zeroK, zeroD⟩
def classL (o : Int) (s : SH) : DL := ⟨o, 2, s.c, false, zeroV, zeroK, zeroD⟩
def protoL (o : Int) (s : SH) : DL := ⟨o, 3, 0, false, s.p, zeroK, zeroD⟩
def extL (o : Int) (s : SH) : DL := ⟨o, 4, 0, s.x, zeroV, zeroK, zeroD⟩
theorem bPut (k : KK) (d : DD) (w : World) : (Instr.build 43 #[(1, .int .i64 6), (5, .agg k.cs.toArray), (6, .agg d.cs.toArray)]).run Tryd.prog w = .ok (.agg (DL.cs ⟨0, 6, 0, false, zeroV, k, d⟩).toArray) w := by kernel_rfl
theorem ex_bPut {o : Oper} {a : Act} {w : World} {x1 x5 x6 : Operand} (k : KK) (d : DD) (ho : o.op = .build 43 #[(1, x1), (5, x5), (6, x6)]) (h1 : a.eval x1 = .int .i64 6) (h5 : a.eval x5 = .agg k.cs.toArray) (h6 : a.eval x6 = .agg d.cs.toArray) : (execOp a.eval o).run Tryd.prog w = .ok (.value (.agg (DL.cs ⟨0, 6, 0, false, zeroV, k, d⟩).toArray)) w := by
  have e := bPut k d w
  unfold execOp
  simp only [ho, List.map_toArray, List.map_cons, List.map_nil, h1, h5, h6]
  simp [e]
theorem bGone (k : KK) (w : World) : (Instr.build 43 #[(1, .int .i64 5), (5, .agg k.cs.toArray)]).run Tryd.prog w = .ok (.agg (DL.cs ⟨0, 5, 0, false, zeroV, k, zeroD⟩).toArray) w := by kernel_rfl
theorem ex_bGone {o : Oper} {a : Act} {w : World} {x1 x5 : Operand} (k : KK) (ho : o.op = .build 43 #[(1, x1), (5, x5)]) (h1 : a.eval x1 = .int .i64 5) (h5 : a.eval x5 = .agg k.cs.toArray) : (execOp a.eval o).run Tryd.prog w = .ok (.value (.agg (DL.cs ⟨0, 5, 0, false, zeroV, k, zeroD⟩).toArray)) w := by
  have e := bGone k w
  unfold execOp
  simp only [ho, List.map_toArray, List.map_cons, List.map_nil, h1, h5]
  simp [e]
theorem bMake (n : Int) (v : VV) (y : Bool) (w : World) : (Instr.build 43 #[(1, .int .i64 1), (2, .int .i64 n), (4, .agg v.cs.toArray), (3, .bool y)]).run Tryd.prog w = .ok (.agg (DL.cs ⟨0, 1, n, y, v, zeroK, zeroD⟩).toArray) w := by kernel_rfl
theorem ex_bMake {o : Oper} {a : Act} {w : World} {x1 x2 x4 x3 : Operand} (n : Int) (v : VV) (y : Bool) (ho : o.op = .build 43 #[(1, x1), (2, x2), (4, x4), (3, x3)]) (h1 : a.eval x1 = .int .i64 1) (h2 : a.eval x2 = .int .i64 n) (h4 : a.eval x4 = .agg v.cs.toArray) (h3 : a.eval x3 = .bool y) : (execOp a.eval o).run Tryd.prog w = .ok (.value (.agg (DL.cs ⟨0, 1, n, y, v, zeroK, zeroD⟩).toArray)) w := by
  have e := bMake n v y w
  unfold execOp
  simp only [ho, List.map_toArray, List.map_cons, List.map_nil, h1, h2, h4, h3]
  simp [e]
theorem bClass (n : Int) (w : World) : (Instr.build 43 #[(1, .int .i64 2), (2, .int .i64 n)]).run Tryd.prog w = .ok (.agg (DL.cs ⟨0, 2, n, false, zeroV, zeroK, zeroD⟩).toArray) w := by kernel_rfl
theorem ex_bClass {o : Oper} {a : Act} {w : World} {x1 x2 : Operand} (n : Int) (ho : o.op = .build 43 #[(1, x1), (2, x2)]) (h1 : a.eval x1 = .int .i64 2) (h2 : a.eval x2 = .int .i64 n) : (execOp a.eval o).run Tryd.prog w = .ok (.value (.agg (DL.cs ⟨0, 2, n, false, zeroV, zeroK, zeroD⟩).toArray)) w := by
  have e := bClass n w
  unfold execOp
  simp only [ho, List.map_toArray, List.map_cons, List.map_nil, h1, h2]
  simp [e]
theorem bProto (v : VV) (w : World) : (Instr.build 43 #[(1, .int .i64 3), (4, .agg v.cs.toArray)]).run Tryd.prog w = .ok (.agg (DL.cs ⟨0, 3, 0, false, v, zeroK, zeroD⟩).toArray) w := by kernel_rfl
theorem ex_bProto {o : Oper} {a : Act} {w : World} {x1 x4 : Operand} (v : VV) (ho : o.op = .build 43 #[(1, x1), (4, x4)]) (h1 : a.eval x1 = .int .i64 3) (h4 : a.eval x4 = .agg v.cs.toArray) : (execOp a.eval o).run Tryd.prog w = .ok (.value (.agg (DL.cs ⟨0, 3, 0, false, v, zeroK, zeroD⟩).toArray)) w := by
  have e := bProto v w
  unfold execOp
  simp only [ho, List.map_toArray, List.map_cons, List.map_nil, h1, h4]
  simp [e]
theorem bExt (y : Bool) (w : World) : (Instr.build 43 #[(1, .int .i64 4), (3, .bool y)]).run Tryd.prog w = .ok (.agg (DL.cs ⟨0, 4, 0, y, zeroV, zeroK, zeroD⟩).toArray) w := by kernel_rfl
theorem ex_bExt {o : Oper} {a : Act} {w : World} {x1 x3 : Operand} (y : Bool) (ho : o.op = .build 43 #[(1, x1), (3, x3)]) (h1 : a.eval x1 = .int .i64 4) (h3 : a.eval x3 = .bool y) : (execOp a.eval o).run Tryd.prog w = .ok (.value (.agg (DL.cs ⟨0, 4, 0, y, zeroV, zeroK, zeroD⟩).toArray)) w := by
  have e := bExt y w
  unfold execOp
  simp only [ho, List.map_toArray, List.map_cons, List.map_nil, h1, h3]
  simp [e]
set_option maxHeartbeats 2000000 in
set_option maxRecDepth 100000 in
theorem put_any (p : PR) (b0 t : Nat) (o : Int) (xs : List DL) (lv : Value) (X : World) (hT : TI b0 X t o xs lv) (hx : xs.length ≤ 100000) (h0 : b0 ≤ X.heap.size) (hs : SP p) : Calls Tryd.prog 44 #[.pointer (some ⟨t, 0, none⟩), p.agg] X (TPost X b0 t o xs [putL o p] lv) := by
  have LL := hide (TS.start hT)
  have hk := fun w => newKey_any p.k w hs.1
  have hd := fun w => newDesc_any p.d w hs.2
  simp only [kagg] at hk
  simp only [dagg] at hd
  rw [pagg]
  clear hT
  go_enter Tryd.func44, Tryd.ntmps44
  go_wp2_with (first | go_skip | ((with_reducible show wpList _ _ _ _ _ _); first | ((refine bxT 55 (p.cs) (by rfl) rfl rfl rfl (Nat.succ_pos _) (unhide LL) ?_); intro X1 B1 hE1 L1 hb1; have hB1 := hide (Nat.le_trans (unhide LL).hq.fr.size (Nat.le_of_eq hE1.symm)); replace LL := hide L1; clear L1 hb1 hE1; simp only [Act.put, List.setIfInBounds_toArray, List.set_cons_succ, List.set_cons_zero])))
  have ht0 : TS X _ (t :: lv.ownBlock.toList) b0 t o xs lv [(B1, p.cs)] := (unhide LL).drew
  have hq0 : ∃ ys lw, TS X _ (t :: lv.ownBlock.toList) b0 t o ys lw [(B1, p.cs)] := ⟨_, _, ht0⟩
  refine wp_region_held_drew (P := Tryd.prog) (S := fun Z => ∃ ys lw, TS X Z (t :: lv.ownBlock.toList) b0 t o ys lw [(B1, p.cs)]) (by kernel_rfl) hq0 (fun hS0 => ?_)
  refine gsem 0 (some 4) (.pointer (some ⟨t, 0, none⟩)) rfl (by kernel_rfl) (by kernel_rfl) (by kernel_rfl) (fun _ _ _ h => h) (by kernel_rfl) (by kernel_rfl) (fun _ _ => by kernel_rfl) hq0 ?_
  simp only [Act.put, List.setIfInBounds_toArray, List.set_cons_succ, List.set_cons_zero]
  refine gsem 1 (some 5) (.pointer (some ⟨B1, 0, none⟩)) rfl (by kernel_rfl) (by kernel_rfl) (by kernel_rfl) (fun _ _ _ h => h) (by kernel_rfl) (by kernel_rfl) (fun _ _ => by kernel_rfl) hq0 ?_
  simp only [Act.put, List.setIfInBounds_toArray, List.set_cons_succ, List.set_cons_zero]
  refine gsem 2 (some 6) (.agg p.k.cs.toArray) rfl (by kernel_rfl) (by kernel_rfl) (by kernel_rfl) (fun _ _ _ h => h) (by kernel_rfl) (by kernel_rfl) (fun X hX => by obtain ⟨ys, lw, hZ⟩ := hX; exact ex_loadN (vs := p.k.cs) 38 2 rwK szK rfl rfl (hZ.hq.get 0 rfl) rfl rfl) hq0 ?_
  simp only [Act.put, List.setIfInBounds_toArray, List.set_cons_succ, List.set_cons_zero]
  refine gsem 4 (some 8) (.pointer (some ⟨B1, 2, none⟩)) rfl (by kernel_rfl) (by kernel_rfl) (by kernel_rfl) (fun _ _ _ h => h) (by kernel_rfl) (by kernel_rfl) (fun _ _ => by kernel_rfl) hq0 ?_
  simp only [Act.put, List.setIfInBounds_toArray, List.set_cons_succ, List.set_cons_zero]
  refine gsem 5 (some 9) (.agg p.d.cs.toArray) rfl (by kernel_rfl) (by kernel_rfl) (by kernel_rfl) (fun _ _ _ h => h) (by kernel_rfl) (by kernel_rfl) (fun X hX => by obtain ⟨ys, lw, hZ⟩ := hX; exact ex_loadN (vs := p.d.cs) 41 18 rwD szD rfl rfl (hZ.hq.get 0 rfl) rfl rfl) hq0 ?_
  simp only [Act.put, List.setIfInBounds_toArray, List.set_cons_succ, List.set_cons_zero]
  refine wpAnyH_ready (rs := [3]) (by kernel_rfl) (by simp) (gcallR 3 (some 7) rfl (by kernel_rfl) (by kernel_rfl) (by kernel_rfl) (hk _) ?_ AllReadyH.nil)
  rintro e Y3 ⟨rfl, hY3⟩
  have ht3 := ht0.on hY3
  have hq3 : ∃ ys lw, TS X Y3 (t :: lv.ownBlock.toList) b0 t o ys lw [(B1, p.cs)] := ⟨_, _, ht3⟩
  refine ⟨_, rfl, hq3, ?_⟩
  simp only [Act.put, List.setIfInBounds_toArray, List.set_cons_succ, List.set_cons_zero]
  refine wpAnyH_ready (rs := [6]) (by kernel_rfl) (by simp) (gcallR 6 (some 10) rfl (by kernel_rfl) (by kernel_rfl) (by kernel_rfl) (hd _) ?_ AllReadyH.nil)
  rintro e Y6 ⟨rfl, hY6⟩
  have ht6 := ht3.on hY6
  have hq6 : ∃ ys lw, TS X Y6 (t :: lv.ownBlock.toList) b0 t o ys lw [(B1, p.cs)] := ⟨_, _, ht6⟩
  refine ⟨_, rfl, hq6, ?_⟩
  simp only [Act.put, List.setIfInBounds_toArray, List.set_cons_succ, List.set_cons_zero]
  refine gsem 7 (some 11) (.agg (DL.cs ⟨0, 6, 0, false, zeroV, p.k, p.d⟩).toArray) rfl (by kernel_rfl) (by kernel_rfl) (by kernel_rfl) (fun _ _ _ h => h) (by kernel_rfl) (by kernel_rfl) (fun X hX => ex_bPut p.k p.d rfl rfl rfl rfl) hq6 ?_
  simp only [Act.put, List.setIfInBounds_toArray, List.set_cons_succ, List.set_cons_zero]
  refine wpAnyH_ready (rs := [8]) (by kernel_rfl) (by simp) (gcallR 8 (some 12) rfl (by kernel_rfl) (by kernel_rfl) (by kernel_rfl) (tell_any ⟨0, 6, 0, false, zeroV, p.k, p.d⟩ b0 t o xs lv _ ht6.ti hx (Nat.le_trans h0 ht6.hq.fr.size)) ?_ AllReadyH.nil)
  rintro e Y8 ⟨lv8, rfl, hY8⟩
  have ht8 := ht6.tell hY8
  have hq8 : ∃ ys lw, TS X Y8 (t :: lv.ownBlock.toList) b0 t o ys lw [(B1, p.cs)] := ⟨_, _, ht8⟩
  refine ⟨_, rfl, hq8, ?_⟩
  simp only [Act.put, List.setIfInBounds_toArray, List.set_cons_succ, List.set_cons_zero]
  refine wpAnyH_done (by kernel_rfl) ?_ _
  try simp only [Act.put, List.setIfInBounds_toArray, List.set_cons_succ, List.set_cons_zero]
  go_wp2
  go_end0
  exact ⟨_, rfl, ht8.post⟩
set_option maxRecDepth 100000 in
theorem gone_any (k : KK) (b0 t : Nat) (o : Int) (xs : List DL) (lv : Value) (X : World) (hT : TI b0 X t o xs lv) (hx : xs.length ≤ 100000) (h0 : b0 ≤ X.heap.size) (hs : k.s.size ≤ 281474976710656) : Calls Tryd.prog 60 #[.pointer (some ⟨t, 0, none⟩), k.agg] X (TPost X b0 t o xs [goneL o k] lv) := by
  have LL := hide (TS.start hT)
  have HK := hide (fun w => newKey_any k w hs)
  have HX := hide hx
  have H0 := hide h0
  simp only [kagg] at HK
  rw [kagg]
  clear hT hx h0 hs
  go_enter Tryd.func60, Tryd.ntmps60
  go_wp2_with (first | go_skip | ((with_reducible show wpList _ _ _ _ _ _); first | ((refine bxT 38 (k.cs) (by rfl) rfl rfl rfl (Nat.succ_pos _) (unhide LL) ?_); intro X1 B1 hE1 L1 hb1; have hB1 := hide (Nat.le_trans (unhide LL).hq.fr.size (Nat.le_of_eq hE1.symm)); replace LL := hide L1; clear L1 hb1 hE1; simp only [Act.put, List.setIfInBounds_toArray, List.set_cons_succ, List.set_cons_zero]) | ((refine rd (by rfl) (ex_loadN (vs := k.cs) 38 2 rwK szK rfl rfl ((unhide LL).hq.get 0 rfl) rfl rfl) ?_); simp only [Act.put, List.setIfInBounds_toArray, List.set_cons_succ, List.set_cons_zero]) | ((refine rd (by rfl) (ex_bGone k rfl rfl rfl) ?_); simp only [Act.put, List.setIfInBounds_toArray, List.set_cons_succ, List.set_cons_zero])))
  refine (unhide HK _).mono ?_
  rintro e Y3 ⟨rfl, hY3⟩
  replace LL := hide ((unhide LL).on hY3)
  clear hY3
  go_wp2_with (first | go_skip | ((with_reducible show wpList _ _ _ _ _ _); first | ((refine bxT 38 (k.cs) (by rfl) rfl rfl rfl (Nat.succ_pos _) (unhide LL) ?_); intro X1 B1 hE1 L1 hb1; have hB1 := hide (Nat.le_trans (unhide LL).hq.fr.size (Nat.le_of_eq hE1.symm)); replace LL := hide L1; clear L1 hb1 hE1; simp only [Act.put, List.setIfInBounds_toArray, List.set_cons_succ, List.set_cons_zero]) | ((refine rd (by rfl) (ex_loadN (vs := k.cs) 38 2 rwK szK rfl rfl ((unhide LL).hq.get 0 rfl) rfl rfl) ?_); simp only [Act.put, List.setIfInBounds_toArray, List.set_cons_succ, List.set_cons_zero]) | ((refine rd (by rfl) (ex_bGone k rfl rfl rfl) ?_); simp only [Act.put, List.setIfInBounds_toArray, List.set_cons_succ, List.set_cons_zero])))
  refine (tell_any ⟨0, 5, 0, false, zeroV, k, zeroD⟩ b0 t o xs lv _ (unhide LL).ti (unhide HX) (Nat.le_trans (unhide H0) (unhide LL).hq.fr.size)).mono ?_
  rintro e Y4 ⟨lv4, rfl, hY4⟩
  replace LL := hide ((unhide LL).tell hY4)
  clear hY4
  go_wp2
  go_end0
  exact ⟨_, rfl, (unhide LL).post⟩
end Go.Proofs.YtcflglloopgieaaDoor

/-! Ip -/
namespace Go.Proofs.YtcflglloopgieaaDoor
open Go Go.Proofs Go.Maps Go.RowKit FM
set_option linter.unusedSimpArgs false
set_option linter.unusedVariables false
set_option maxHeartbeats 1000000
def madeL (o : Int) (s : SH) : List DL := makeL o s :: s.ps.map (putL o)
theorem take_map (o : Int) {l : List PR} {i : Nat} {p : PR} (hp : l[i]? = some p) : (l.take (i + 1)).map (putL o) = (l.take i).map (putL o) ++ [putL o p] := by
  obtain ⟨hi, rfl⟩ := List.getElem?_eq_some_iff.1 hp
  rw [List.take_succ_eq_append_getElem hi, List.map_append]
  rfl
theorem rangeAt_far {w X : World} {b p : Nat} {cs : List Value} {E : List Nat} (h : w.rangeAt b p cs) (hb : b < w.heap.size) (hf : Fr w X E) (hE : b ∉ E) : X.rangeAt b p cs := fun j v hv => by
  have e := h j v hv
  have h1 := hf.block b hb hE
  unfold World.cell? at e ⊢
  dsimp only at e ⊢
  rw [h1]
  exact e
/-- A row's block is none of these. -/
def Out (A : Option Addr) (l : List PR) (E : List Nat) : Prop := ∀ (j : Nat) (p : PR), l[j]? = some p → ∀ b off, A = some ⟨b, off, none⟩ → b ∉ E
set_option maxHeartbeats 2000000 in
set_option maxRecDepth 100000 in
theorem made_any (s : SH) (SA : Option Addr) (sc : Nat) (b0 t : Nat) (o : Int) (xs : List DL) (lv : Value) (X : World) (hT : TI b0 X t o xs lv) (hW : ReadsP X SA s.ps) (hN : Out SA s.ps (t :: lv.ownBlock.toList)) (hx : xs.length + 1 + s.ps.length ≤ 100000) (h0 : b0 ≤ X.heap.size) (hs : SS s) : Calls Tryd.prog 24 #[.pointer (some ⟨t, 0, none⟩), s.agg SA sc] X (TPost X b0 t o xs (madeL o s) lv) := by
  have HN := hide hN
  clear hN
  have LL := hide (TS.start hT)
  have hv := fun w => newValue_any s.p w hs.1
  simp only [vagg] at hv
  unfold SH.agg
  clear hT
  go_enter Tryd.func24, Tryd.ntmps24
  go_wp2_with (first | go_skip | ((with_reducible show wpList _ _ _ _ _ _); first | ((refine bxT 50 (s.cs SA sc) (by rfl) rfl rfl rfl (Nat.succ_pos _) (unhide LL) ?_); intro X3 B3 hE3 L3 hb3; have hB3 := hide (Nat.le_trans (unhide LL).hq.fr.size (Nat.le_of_eq hE3.symm)); replace LL := hide L3; clear L3 hb3 hE3; simp only [Act.put, List.setIfInBounds_toArray, List.set_cons_succ, List.set_cons_zero])))
  have ht0 : TS X _ (t :: lv.ownBlock.toList) b0 t o xs lv [(B3, s.cs SA sc)] := (unhide LL).drew
  have hq0 : ∃ ys lw, TS X _ (t :: lv.ownBlock.toList) b0 t o ys lw [(B3, s.cs SA sc)] := ⟨_, _, ht0⟩
  refine wp_region_held_drew (P := Tryd.prog) (S := fun Z => ∃ ys lw, TS X Z (t :: lv.ownBlock.toList) b0 t o ys lw [(B3, s.cs SA sc)]) (by kernel_rfl) hq0 (fun hS0 => ?_)
  refine gsem 0 (some 6) (.pointer (some ⟨t, 0, none⟩)) rfl (by kernel_rfl) (by kernel_rfl) (by kernel_rfl) (fun _ _ _ h => h) (by kernel_rfl) (by kernel_rfl) (fun _ _ => by kernel_rfl) hq0 ?_
  simp only [Act.put, List.setIfInBounds_toArray, List.set_cons_succ, List.set_cons_zero]
  refine gsem 1 (some 7) (.pointer (some ⟨B3, 0, none⟩)) rfl (by kernel_rfl) (by kernel_rfl) (by kernel_rfl) (fun _ _ _ h => h) (by kernel_rfl) (by kernel_rfl) (fun _ _ => by kernel_rfl) hq0 ?_
  simp only [Act.put, List.setIfInBounds_toArray, List.set_cons_succ, List.set_cons_zero]
  refine gsem 2 (some 8) (.int .i64 s.c) rfl (by kernel_rfl) (by kernel_rfl) (by kernel_rfl) (fun _ _ _ h => h) (by kernel_rfl) (by kernel_rfl) (fun X hX => by obtain ⟨ys, lw, hZ⟩ := hX; exact ex_load1 3 Tryd.isAgg3 rfl rfl (hZ.hq.get 0 rfl) rfl) hq0 ?_
  simp only [Act.put, List.setIfInBounds_toArray, List.set_cons_succ, List.set_cons_zero]
  refine gsem 3 (some 9) (.pointer (some ⟨B3, 1, none⟩)) rfl (by kernel_rfl) (by kernel_rfl) (by kernel_rfl) (fun _ _ _ h => h) (by kernel_rfl) (by kernel_rfl) (fun _ _ => by kernel_rfl) hq0 ?_
  simp only [Act.put, List.setIfInBounds_toArray, List.set_cons_succ, List.set_cons_zero]
  refine gsem 4 (some 10) (.agg s.p.cs.toArray) rfl (by kernel_rfl) (by kernel_rfl) (by kernel_rfl) (fun _ _ _ h => h) (by kernel_rfl) (by kernel_rfl) (fun X hX => by obtain ⟨ys, lw, hZ⟩ := hX; exact ex_loadN (vs := s.p.cs) 36 5 rwV szV rfl rfl (hZ.hq.get 0 rfl) rfl rfl) hq0 ?_
  simp only [Act.put, List.setIfInBounds_toArray, List.set_cons_succ, List.set_cons_zero]
  refine gsem 6 (some 12) (.pointer (some ⟨B3, 6, none⟩)) rfl (by kernel_rfl) (by kernel_rfl) (by kernel_rfl) (fun _ _ _ h => h) (by kernel_rfl) (by kernel_rfl) (fun _ _ => by kernel_rfl) hq0 ?_
  simp only [Act.put, List.setIfInBounds_toArray, List.set_cons_succ, List.set_cons_zero]
  refine gsem 7 (some 13) (.bool s.x) rfl (by kernel_rfl) (by kernel_rfl) (by kernel_rfl) (fun _ _ _ h => h) (by kernel_rfl) (by kernel_rfl) (fun X hX => by obtain ⟨ys, lw, hZ⟩ := hX; exact ex_load1 4 Tryd.isAgg4 rfl rfl (hZ.hq.get 0 rfl) rfl) hq0 ?_
  simp only [Act.put, List.setIfInBounds_toArray, List.set_cons_succ, List.set_cons_zero]
  refine wpAnyH_ready (rs := [5]) (by kernel_rfl) (by simp) (gcallR 5 (some 11) rfl (by kernel_rfl) (by kernel_rfl) (by kernel_rfl) (hv _) ?_ AllReadyH.nil)
  rintro e Y5 ⟨rfl, hY5⟩
  have ht5 := ht0.on hY5
  have hq5 : ∃ ys lw, TS X Y5 (t :: lv.ownBlock.toList) b0 t o ys lw [(B3, s.cs SA sc)] := ⟨_, _, ht5⟩
  refine ⟨_, rfl, hq5, ?_⟩
  simp only [Act.put, List.setIfInBounds_toArray, List.set_cons_succ, List.set_cons_zero]
  refine gsem 8 (some 14) (.agg (DL.cs ⟨0, 1, s.c, s.x, s.p, zeroK, zeroD⟩).toArray) rfl (by kernel_rfl) (by kernel_rfl) (by kernel_rfl) (fun _ _ _ h => h) (by kernel_rfl) (by kernel_rfl) (fun X hX => ex_bMake s.c s.p s.x rfl rfl rfl rfl rfl) hq5 ?_
  simp only [Act.put, List.setIfInBounds_toArray, List.set_cons_succ, List.set_cons_zero]
  refine wpAnyH_ready (rs := [9]) (by kernel_rfl) (by simp) (gcallR 9 (some 15) rfl (by kernel_rfl) (by kernel_rfl) (by kernel_rfl) (tell_any ⟨0, 1, s.c, s.x, s.p, zeroK, zeroD⟩ b0 t o xs lv _ ht5.ti (by omega) (Nat.le_trans h0 ht5.hq.fr.size)) ?_ AllReadyH.nil)
  rintro e Y9 ⟨lv9, rfl, hY9⟩
  have ht9 := ht5.tell hY9
  have hq9 : ∃ ys lw, TS X Y9 (t :: lv.ownBlock.toList) b0 t o ys lw [(B3, s.cs SA sc)] := ⟨_, _, ht9⟩
  refine ⟨_, rfl, hq9, ?_⟩
  simp only [Act.put, List.setIfInBounds_toArray, List.set_cons_succ, List.set_cons_zero]
  refine wpAnyH_done (by kernel_rfl) ?_ _
  try simp only [Act.put, List.setIfInBounds_toArray, List.set_cons_succ, List.set_cons_zero]
  have LM : Hid (∃ lw, TS X Y9 (t :: lv.ownBlock.toList) b0 t o (xs ++ ([makeL o s] ++ (s.ps.take 0).map (putL o))) lw [(B3, s.cs SA sc)]) := hide ⟨_, by simpa [makeL] using ht9⟩
  have HW := hide hW
  have HX := hide hx
  have H0 := hide h0
  have HS := hide hs.2
  clear LL hq0 ht0 hS0 hq5 ht5 hY5 hq9 ht9 hY9 hv hW hx h0 hs
  obtain ⟨lw9, hlw9⟩ := unhide LM
  have LL := hide hlw9
  clear LM hlw9
  go_wp2_with (first | go_skip | ((with_reducible show wpList _ _ _ _ _ _); first | ((refine rd (by rfl) (ex_load1 48 Tryd.isAgg48 rfl rfl ((unhide LL).hq.get 0 rfl) rfl) ?_); simp only [Act.put, List.setIfInBounds_toArray, List.set_cons_succ, List.set_cons_zero]) | ((refine rd (by rfl) (ex_lenG 48 55 Tryd.underlying48 rfl rfl) ?_); simp only [Act.put, List.setIfInBounds_toArray, List.set_cons_succ, List.set_cons_zero])))
  go_loopg [19] s.ps.length (fun gm s19 wr => ∃ i : Nat, s19 = .int .i64 (i : Nat) ∧ i ≤ s.ps.length ∧ s.ps.length - i ≤ gm ∧ Hid (∃ lw, TS X wr (t :: lv.ownBlock.toList) b0 t o (xs ++ ([makeL o s] ++ (s.ps.take i).map (putL o))) lw [(B3, s.cs SA sc)]))
  case atStart => exact ⟨0, rfl, by omega, by omega, hide ⟨_, unhide LL⟩⟩
  case round =>
    clear LL
    obtain ⟨i, rfl, hil, hgm, LM⟩ := hrel
    obtain ⟨lw, hlw⟩ := unhide LM
    have LL := hide hlw
    clear LM hlw
    by_cases hlt : i < s.ps.length
    · have dlt : decide ((i : Int) < (s.ps.length : Int)) = true := decide_eq_true (by omega)
      have hw1 : IntKind.i64.wrap ((i : Int) + 1) = (i : Int) + 1 := by have := unhide HX; rw [IntKind.wrap_i64]; omega
      obtain ⟨p, hp⟩ : ∃ p, s.ps[i]? = some p := ⟨_, List.getElem?_eq_getElem hlt⟩
      obtain ⟨_, b, off, hA, hb, hrg⟩ := (unhide HW) i p hp
      have HA := hide hA
      have HA2 : Hid (∀ Z, Fr X Z (t :: lv.ownBlock.toList) → Z.rangeAt b (off + i * 20) p.cs) := hide (fun Z hZ => rangeAt_far hrg hb hZ ((unhide HN) i p hp b off hA))
      have HLT := hide hlt
      have HSP := hide ((unhide HS) p (List.mem_of_getElem? hp))
      have HTM := hide (take_map o hp)
      have HXL : Hid ((xs ++ ([makeL o s] ++ (s.ps.take i).map (putL o))).length ≤ 100000) := hide (by have := unhide HX; simp; omega)
      clear hA hb hrg hlt hil hp
      go_wp2_with (first | go_skip | ((with_reducible show wpList _ _ _ _ _ _); first | ((refine rd (by rfl) (ex_indexA 48 20 i unPs idPs rfl rfl (unhide HA) rfl (unhide HLT)) ?_); simp only [Act.put, List.setIfInBounds_toArray, List.set_cons_succ, List.set_cons_zero]) | ((refine rd (by rfl) (ex_loadR (vs := p.cs) 55 20 rwP szP rfl rfl (unhide HA2 _ (unhide LL).hq.fr) rfl) ?_); simp only [Act.put, List.setIfInBounds_toArray, List.set_cons_succ, List.set_cons_zero]) | ((refine alT 55 (zeroP.cs) (by rfl) rfl (fun w => by kernel_rfl) (Nat.succ_pos _) (unhide LL) ?_); intro X5 B5 hE5 L5 hb5; have hB5 := hide (Nat.le_trans (unhide LL).hq.fr.size (Nat.le_of_eq hE5.symm)); replace LL := hide L5; clear L5 hb5 hE5; simp only [Act.put, List.setIfInBounds_toArray, List.set_cons_succ, List.set_cons_zero]) | ((refine stT (vs := p.cs) 1 55 (by rfl) rfl rfl rfl rfl (pcs_one p) szP (unhide LL) rfl (by simp [cput, PR.cs, SH.cs, VV.cs, KK.cs, DD.cs, CO.cs, DL.cs, zeroP, zeroS, zeroD, zeroV]) (Or.inr (unhide hB5)) ?_); intro X6 L6 hf6; replace LL := hide L6; clear L6 hf6; simp only [Act.put, List.setIfInBounds_toArray, List.set_cons_succ, List.set_cons_zero]) | ((refine rd (by rfl) (ex_loadN (vs := p.cs) 55 20 rwP szP rfl rfl ((unhide LL).hq.get 1 rfl) rfl rfl) ?_); simp only [Act.put, List.setIfInBounds_toArray, List.set_cons_succ, List.set_cons_zero]) | ((refine rd (by rfl) (ex_load1 48 Tryd.isAgg48 rfl rfl ((unhide LL).hq.get 0 rfl) rfl) ?_); simp only [Act.put, List.setIfInBounds_toArray, List.set_cons_succ, List.set_cons_zero]) | ((refine rd (by rfl) (ex_lenG 48 55 Tryd.underlying48 rfl rfl) ?_); simp only [Act.put, List.setIfInBounds_toArray, List.set_cons_succ, List.set_cons_zero])))
      have hpu := put_any p b0 t o _ lw _ (unhide LL).ti (unhide HXL) (Nat.le_trans (unhide H0) (unhide LL).hq.fr.size) (unhide HSP)
      rw [pagg] at hpu
      refine hpu.mono ?_
      clear hpu
      rintro e Y4 ⟨lv4, rfl, hY4⟩
      replace LL := hide ((unhide LL).tell hY4)
      clear hY4
      have LN : Hid (∃ lw, TS X Y4 (t :: lv.ownBlock.toList) b0 t o (xs ++ ([makeL o s] ++ (s.ps.take (i + 1)).map (putL o))) lw [(B3, s.cs SA sc)]) := hide ⟨lv4, by rw [unhide HTM]; have := TS.left (L := [(B3, s.cs SA sc)]) (unhide LL); simpa using this⟩
      clear LL
      go_wp2_with (first | go_skip | ((with_reducible show wpList _ _ _ _ _ _); first | ((refine rd (by rfl) (ex_indexA 48 20 i unPs idPs rfl rfl (unhide HA) rfl (unhide HLT)) ?_); simp only [Act.put, List.setIfInBounds_toArray, List.set_cons_succ, List.set_cons_zero]) | ((refine rd (by rfl) (ex_loadR (vs := p.cs) 55 20 rwP szP rfl rfl (unhide HA2 _ (unhide LL).hq.fr) rfl) ?_); simp only [Act.put, List.setIfInBounds_toArray, List.set_cons_succ, List.set_cons_zero]) | ((refine alT 55 (zeroP.cs) (by rfl) rfl (fun w => by kernel_rfl) (Nat.succ_pos _) (unhide LL) ?_); intro X5 B5 hE5 L5 hb5; have hB5 := hide (Nat.le_trans (unhide LL).hq.fr.size (Nat.le_of_eq hE5.symm)); replace LL := hide L5; clear L5 hb5 hE5; simp only [Act.put, List.setIfInBounds_toArray, List.set_cons_succ, List.set_cons_zero]) | ((refine stT (vs := p.cs) 1 55 (by rfl) rfl rfl rfl rfl (pcs_one p) szP (unhide LL) rfl (by simp [cput, PR.cs, SH.cs, VV.cs, KK.cs, DD.cs, CO.cs, DL.cs, zeroP, zeroS, zeroD, zeroV]) (Or.inr (unhide hB5)) ?_); intro X6 L6 hf6; replace LL := hide L6; clear L6 hf6; simp only [Act.put, List.setIfInBounds_toArray, List.set_cons_succ, List.set_cons_zero]) | ((refine rd (by rfl) (ex_loadN (vs := p.cs) 55 20 rwP szP rfl rfl ((unhide LL).hq.get 1 rfl) rfl rfl) ?_); simp only [Act.put, List.setIfInBounds_toArray, List.set_cons_succ, List.set_cons_zero]) | ((refine rd (by rfl) (ex_load1 48 Tryd.isAgg48 rfl rfl ((unhide LL).hq.get 0 rfl) rfl) ?_); simp only [Act.put, List.setIfInBounds_toArray, List.set_cons_succ, List.set_cons_zero]) | ((refine rd (by rfl) (ex_lenG 48 55 Tryd.underlying48 rfl rfl) ?_); simp only [Act.put, List.setIfInBounds_toArray, List.set_cons_succ, List.set_cons_zero])))
      go_roundg (s.ps.length - (i + 1))
      case measure => have := unhide HLT; omega
      case rel => exact ⟨i + 1, by go_num, by have := unhide HLT; omega, by omega, LN⟩
    · obtain rfl : i = s.ps.length := by omega
      clear hlt hil
      have LF : Hid (TP X b0 t o xs (madeL o s) lv lw wr) := hide (by have := (unhide LL).post; rw [List.take_length] at this; exact this)
      clear LL
      go_wp2
      go_end0
      exact ⟨_, rfl, unhide LF⟩
end Go.Proofs.YtcflglloopgieaaDoor

/-! Iq -/
namespace Go.Proofs.YtcflglloopgieaaDoor
open Go Go.Proofs Go.Maps Go.RowKit FM
set_option linter.unusedSimpArgs false
set_option linter.unusedVariables false
set_option maxHeartbeats 1000000
def hit (is st : List PR) (p : PR) : Bool := match is[st.length]? with
  | none => false
  | some q => decide (q.k = p.k)
def stayT (is was : List PR) : Nat → List PR
  | 0 => []
  | i + 1 => match was[i]? with
    | none => stayT is was i
    | some p => if hit is (stayT is was i) p then stayT is was i ++ [p] else stayT is was i
def goT (o : Int) (is was : List PR) : Nat → List DL
  | 0 => []
  | i + 1 => match was[i]? with
    | none => goT o is was i
    | some p => if hit is (stayT is was i) p then goT o is was i else goT o is was i ++ [goneL o p.k]
theorem stayT_yes {o : Int} {is was : List PR} {i : Nat} {p : PR} (hp : was[i]? = some p) (h : hit is (stayT is was i) p = true) : stayT is was (i + 1) = stayT is was i ++ [p] ∧ goT o is was (i + 1) = goT o is was i := by
  simp [stayT, goT, hp, h]
theorem stayT_no {o : Int} {is was : List PR} {i : Nat} {p : PR} (hp : was[i]? = some p) (h : hit is (stayT is was i) p = false) : stayT is was (i + 1) = stayT is was i ∧ goT o is was (i + 1) = goT o is was i ++ [goneL o p.k] := by
  simp [stayT, goT, hp, h]
theorem stayT_len (o : Int) (is was : List PR) : ∀ i, (stayT is was i).length ≤ is.length ∧ (stayT is was i).length ≤ i ∧ (goT o is was i).length ≤ i
  | 0 => by simp [stayT, goT]
  | i + 1 => by
    obtain ⟨h1, h2, h3⟩ := stayT_len o is was i
    cases hp : was[i]? with
    | none =>
      simp [stayT, goT, hp]
      omega
    | some p =>
      cases hh : hit is (stayT is was i) p with
      | false =>
        simp [stayT, goT, hp, hh]
        omega
      | true =>
        simp only [stayT, goT, hp, hh, if_true, List.length_append, List.length_singleton]
        have : (stayT is was i).length < is.length := by
          unfold hit at hh
          cases hq : is[(stayT is was i).length]? with
          | none => simp [hq] at hh
          | some q => exact (List.getElem?_eq_some_iff.1 hq).1
        omega
def chT (o : Int) (is st : List PR) : Nat → List DL
  | 0 => []
  | i + 1 => match st[i]?, is[i]? with
    | some p, some q => if eqD p.d q.d then chT o is st i else chT o is st i ++ [putL o q]
    | _, _ => chT o is st i
theorem chT_yes {o : Int} {is st : List PR} {i : Nat} {p q : PR} (hp : st[i]? = some p) (hq : is[i]? = some q) (h : eqD p.d q.d = true) : chT o is st (i + 1) = chT o is st i := by simp [chT, hp, hq, h]
theorem chT_no {o : Int} {is st : List PR} {i : Nat} {p q : PR} (hp : st[i]? = some p) (hq : is[i]? = some q) (h : eqD p.d q.d = false) : chT o is st (i + 1) = chT o is st i ++ [putL o q] := by simp [chT, hp, hq, h]
theorem chT_len (o : Int) (is st : List PR) : ∀ i, (chT o is st i).length ≤ i
  | 0 => by simp [chT]
  | i + 1 => by
    have h1 := chT_len o is st i
    unfold chT
    split
    · split
      · omega
      · simp
        omega
    · omega
def propsL (o : Int) (was is : List PR) : List DL := goT o is was was.length ++ (chT o is (stayT is was was.length) (stayT is was was.length).length ++ (is.drop (stayT is was was.length).length).map (putL o))
/-- A row of properties of our own, beside the tale and our boxes. -/
structure SRow (X Z : World) (t : Nat) (lw : Value) (Bs : List Nat) (st : List PR) (sv : Value) : Prop where
  own : Z.ownsRow X.heap.size 55 20 sv st.length (flatP st)
  nt : sv.ownBlock ≠ some t
  nl : ∀ g, sv.ownBlock = some g → lw.ownBlock ≠ some g
  nb : ∀ b ∈ Bs, sv.ownBlock ≠ some b
theorem SRow.on {X Z Y : World} {t : Nat} {lw sv : Value} {Bs : List Nat} {st : List PR} (h : SRow X Z t lw Bs st sv) (k : Below Z.heap.size Z Y) : SRow X Y t lw Bs st sv := ⟨own_blk h.own (fun g hg => k.block g (World.ownsRow.lt h.own g hg).2), h.nt, h.nl, h.nb⟩
theorem SRow.add {X Z Y : World} {t b : Nat} {lw sv : Value} {Bs : List Nat} {st : List PR} (h : SRow X Z t lw Bs st sv) (k : Below Z.heap.size Z Y) (hb : b = Z.heap.size) : SRow X Y t lw (b :: Bs) st sv := ⟨own_blk h.own (fun g hg => k.block g (World.ownsRow.lt h.own g hg).2), h.nt, h.nl, fun c hc => by
  rcases List.mem_cons.1 hc with rfl | hc
  · intro e
    have := (World.ownsRow.lt h.own _ e).2
    omega
  · exact h.nb c hc⟩
theorem SRow.far {X Z Y : World} {t b : Nat} {lw sv : Value} {Bs : List Nat} {st : List PR} (h : SRow X Z t lw Bs st sv) (k : Fr Z Y [b]) (hb : b ∈ Bs) : SRow X Y t lw Bs st sv := ⟨own_blk h.own (fun g hg => k.block g (World.ownsRow.lt h.own g hg).2 (by
  intro e
  obtain rfl : g = b := by simpa using e
  exact h.nb g hb hg)), h.nt, h.nl, h.nb⟩
theorem SRow.drop {X Z : World} {t : Nat} {lw sv : Value} {Bs : List Nat} {st : List PR} (h : SRow X Z t lw Bs st sv) : SRow X Z t lw [] st sv := ⟨h.own, h.nt, h.nl, by simp⟩
theorem SRow.tell {X Z Y : World} {b0 t : Nat} {o : Int} {ys ds : List DL} {lw lw' sv : Value} {Bs : List Nat} {st : List PR} (h : SRow X Z t lw Bs st sv) (k : TP Z b0 t o ys ds lw lw' Y) : SRow X Y t lw' Bs st sv := ⟨own_blk h.own (fun g hg => k.fr.block g (World.ownsRow.lt h.own g hg).2 (by
  intro e
  rcases List.mem_cons.1 e with rfl | e
  · exact h.nt hg
  · exact h.nl g hg (by simpa using e))), h.nt, fun g hg e => by
    rcases k.fre g e with e2 | e2
    · exact h.nl g hg e2
    · have := (World.ownsRow.lt h.own g hg).2
      omega, h.nb⟩
/-- The row of our own grows. -/
theorem SRow.grow {X Z Y : World} {E : List Nat} {b0 t : Nat} {o : Int} {ys : List DL} {lw sv : Value} {Bs : List Nat} {st : List PR} {p : PR} {L : List (Nat × List Value)} {A : Option Addr} {c : Nat} (h : SRow X Z t lw Bs st sv) (hL : TS X Z E b0 t o ys lw L) (hB : ∀ q ∈ L, sv.ownBlock ≠ some q.1) (hO : Y.ownsRow X.heap.size 55 20 (.slice A (st.length + 1) c) (st.length + 1) (flatP st ++ p.cs)) (hg : Z.grownBy Y sv.ownBlock) (hF : Fresh Z sv (.slice A (st.length + 1) c)) (hbs : ∀ b ∈ Bs, b < Z.heap.size) :
    SRow X Y t lw Bs (st ++ [p]) (.slice A (st.length + 1) c) ∧ TS X Y E b0 t o ys lw L := by
  have hne : ∀ g, g < Z.heap.size → sv.ownBlock ≠ some g → (Value.slice A (st.length + 1) c).ownBlock ≠ some g := fun g hg hs e => by
    rcases hF with e2 | e2
    · exact hs (e2 ▸ e)
    · rw [e2] at e
      have := Option.some.inj e
      omega
  have hsz : ∀ g, sv.ownBlock = some g → X.heap.size ≤ g := fun g hg => (World.ownsRow.lt h.own g hg).1
  have hfr : Fr Z Y sv.ownBlock.toList := Fr.grown hg
  refine ⟨⟨?_, hne t hL.ti.lt h.nt, fun g hg e => ?_, fun b hb => hne b (hbs b hb) (h.nb b hb)⟩, ⟨?_, ?_, hL.sep, hL.ct, hL.cl⟩⟩
  · rw [List.length_append, show flatP (st ++ [p]) = flatP st ++ p.cs by simp [flatP]]
    exact hO
  · exact hne g (World.ownsRow.lt hL.ti.own g e).2 (fun e2 => h.nl g e2 e) hg
  · exact hL.ti.far (hfr.block t hL.ti.lt (by simpa using h.nt)) (fun g hg2 => hfr.block g (World.ownsRow.lt hL.ti.own g hg2).2 (by
      intro e
      exact h.nl g (by simpa using e) hg2))
  · exact hL.hq.step hfr (fun b hb => .inr (hsz b (by simpa using hb))) (fun q hq hb => hB q hq (by simpa using hb))
theorem sliceU (A : Option Addr) (n cap p : Nat) (hp : p ≤ n) (hn : n ≤ cap) (hA : n ≠ 0 → ∃ b off, A = some ⟨b, off, none⟩) (w : World) : ∃ A' : Option Addr, (∀ b off, A = some ⟨b, off, none⟩ → n - p ≠ 0 → A' = some ⟨b, off + p * 20, none⟩) ∧ (Instr.sliceAt 48 (.slice A n cap) (some (.int .i64 (p : Nat))) none none).run Tryd.prog w = .ok (.slice A' (n - p) (cap - p)) w := by
  by_cases h0 : p = 0
  · subst h0
    refine ⟨A, fun b off h _ => by simpa using h, ?_⟩
    rw [run_sliceAt_slice (h := by kernel_rfl), run_slice_l (ht := by kernel_rfl) (h0 := by omega) (h1 := by omega)]
    have e : (sizeOf (Tryd.prog.elem 48)).run Tryd.prog w = .ok 20 w := by kernel_rfl
    rw [e]
    cases A <;> simp [sliced, Addr.add, Result.andThen]
  · obtain ⟨b, off, rfl⟩ := hA (by omega)
    refine ⟨if cap = p then some ⟨b, off, none⟩ else some ⟨b, off + p * 20, none⟩, fun b' off' h h2 => ?_, ?_⟩
    · rw [if_neg (by omega)]
      simp only [Option.some.injEq, Addr.mk.injEq] at h ⊢
      obtain ⟨rfl, rfl, -⟩ := h
      exact ⟨rfl, rfl, trivial⟩
    rw [run_sliceAt_slice (h := by kernel_rfl), run_slice_l (ht := by kernel_rfl) (h0 := by omega) (h1 := by omega)]
    have e : (sizeOf (Tryd.prog.elem 48)).run Tryd.prog w = .ok 20 w := by kernel_rfl
    rw [e]
    by_cases h1 : cap = p
    · simp [sliced, Addr.add, Result.andThen, h0, h1]
    · have h2 : ¬ p * 20 = 0 := by omega
      simp [sliced, Addr.add, Result.andThen, h0, h1, h2]
theorem ex_sliceU {o : Oper} {a : Act} {w : World} {x ix : Operand} {v u : Value} {p : Nat} (ho : o.op = .slice 48 x (some ix) none none) (hx : a.eval x = v) (hix : a.eval ix = .int .i64 (p : Nat)) (h : (Instr.sliceAt 48 v (some (.int .i64 (p : Nat))) none none).run Tryd.prog w = .ok u w) : (execOp a.eval o).run Tryd.prog w = .ok (.value u) w := by
  unfold execOp
  simp only [ho, hx, hix, Option.map_some, Option.map_none]
  simp [h]
theorem buildT {ops : Array Oper} {rest : List Oper} {Q : Exit → Act → World → Prop} {w w0 : World} {a : Act} {o : Oper} {E : List Nat} {L : List (Nat × List Value)} {b0 t : Nat} {ob : Int} {xs : List DL} {lv : Value} {x : Operand} (p : PR) (hw : Region.wanted o (yielded ops a.tmps) = true) (ho : o.op = .buildSlice 48 1 #[(0, x)]) (hx : a.eval x = .agg p.cs.toArray) (hL : TS w0 w E b0 t ob xs lv L)
    (h : ∀ X B, B = w.heap.size → TS w0 X E b0 t ob xs lv (L ++ [(B, p.cs)]) → Below w.heap.size w X → wpList Tryd.prog ops Q rest (a.put o.dst (.slice (some ⟨B, 0, none⟩) 1 1)) X) : wpList Tryd.prog ops Q (o :: rest) a w := by
  refine BigFrame.wpList_want hw fun K hK => ?_
  obtain ⟨i0, hi, hz0, hz1, hz2⟩ := info_parts inf46
  refine wp_buildSlice 48 55 1 _ ho p.cs.toArray i0 _ Tryd.underlying48 hi hz0 (by rw [hz1]; omega) (by rw [hz1]; omega) ?_ (hK _ _ (h _ _ rfl (hL.new p.cs 55 (Nat.succ_pos _)) ((Below.refl _ _).alloc (Nat.le_refl _) _)))
  rw [hz1]
  simp only [List.map_toArray, List.map_cons, List.map_nil, hx]
  exact fill_one 20 _ (.agg p.cs.toArray) (by simp) rfl
theorem reads_drop {X : World} {A A' : Option Addr} {l : List PR} {n : Nat} (h : ReadsP X A l) (hA : ∀ b off, A = some ⟨b, off, none⟩ → l.length - n ≠ 0 → A' = some ⟨b, off + n * 20, none⟩) : ReadsP X A' (l.drop n) := fun j p hp => by
  rw [List.getElem?_drop] at hp
  obtain ⟨h1, b, off, h2, h3, h4⟩ := h (n + j) p hp
  have hl := (List.getElem?_eq_some_iff.1 hp).1
  refine ⟨h1, b, off + n * 20, hA b off h2 (by omega), h3, ?_⟩
  rw [show off + n * 20 + j * 20 = off + (n + j) * 20 by omega]
  exact h4
theorem out_drop {A A' : Option Addr} {l : List PR} {n : Nat} {E : List Nat} {X : World} (h : Out A l E) (hR : ReadsP X A l) (hA : ∀ b off, A = some ⟨b, off, none⟩ → l.length - n ≠ 0 → A' = some ⟨b, off + n * 20, none⟩) : Out A' (l.drop n) E := fun j p hp b off hb => by
  rw [List.getElem?_drop] at hp
  obtain ⟨_, b2, off2, h2, _, _⟩ := hR (n + j) p hp
  have hl := (List.getElem?_eq_some_iff.1 hp).1
  have e := hA b2 off2 h2 (by omega)
  rw [hb] at e
  simp only [Option.some.injEq, Addr.mk.injEq] at e
  obtain ⟨rfl, -⟩ := e
  exact h (n + j) p hp _ _ h2
end Go.Proofs.YtcflglloopgieaaDoor
