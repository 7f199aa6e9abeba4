import Derived.Test.YtcflglloopgieaaGreatDoorQu
import Derived.Test.YtcflglloopgieaaGreatDoorQs
import Derived.Test.YtcflglloopgieaaGreatDoorQh
import Derived.Test.YtcflglloopgieaaGreatDoorQj

/-! Il -/
namespace Go.Proofs.YtcflglloopgieaaGreatDoor
open Go Go.Proofs Go.Maps Go.RowKit FM
set_option linter.unusedSimpArgs false
set_option linter.unusedVariables false
set_option maxHeartbeats 1000000
theorem r7 {w : World} {b p : Nat} {s : SH} {SA : Option Addr} {sc : Nat} (h : w.rangeAt b p (s.cs SA sc)) : w.cell? ⟨b, p + 7, none⟩ = some (.slice SA s.ps.length sc) := h 7 _ rfl
def sumT (l : List SH) : Nat → Nat
  | 0 => 0
  | i + 1 => sumT l i + (l.getD i zeroS).ps.length
def FewPost (w : World) (l : List SH) (e : Ending) (X : World) : Prop := ∃ r : Bool, e = .returned (.bool r) ∧ (r = true → l.length ≤ 60 ∧ ∀ s ∈ l, s.ps.length ≤ 400) ∧ Below w.heap.size w X
theorem sumT_le {l : List SH} : ∀ {n i : Nat}, i < n → (l.getD i zeroS).ps.length ≤ sumT l n
  | 0, i, h => absurd h (Nat.not_lt_zero _)
  | n + 1, i, h => by
    rcases Nat.lt_succ_iff_lt_or_eq.1 h with h1 | h1
    · exact Nat.le_trans (sumT_le h1) (Nat.le_add_right _ _)
    · subst h1
      exact Nat.le_add_left _ _
theorem few_all {l : List SH} (h1 : l.length ≤ 60) (h2 : sumT l l.length ≤ 400) : ∀ s ∈ l, s.ps.length ≤ 400 := fun s hs => by
  obtain ⟨j, hj⟩ := List.getElem?_of_mem hs
  obtain ⟨hl, he⟩ := List.getElem?_eq_some_iff.1 hj
  have := sumT_le (l := l) hl
  rw [show l.getD j zeroS = s by simp [hj]] at this
  omega
set_option maxRecDepth 100000 in
theorem few_any (A : Option Addr) (cap : Nat) (l : List SH) (w : World) (hR : ReadsS w A l) : Calls Tryz.prog 5 #[.slice A l.length cap] w (FewPost w l) := by
  have LL := hide (Hq.nil w [])
  have HR := hide hR
  clear hR
  go_enter Tryz.func5, Tryz.ntmps5
  go_wp2_with (first | go_skip | ((with_reducible show wpList _ _ _ _ _ _); first | ((refine rd (by rfl) (ex_lenG 22 34 Tryz.underlying22 rfl rfl) ?_); simp only [Act.put, List.setIfInBounds_toArray, List.set_cons_succ, List.set_cons_zero])))
  go_loopg [3, 4] 61 (fun gm s3 s4 wr => ∃ i : Nat, s4 = .int .i64 (i : Nat) ∧ s3 = .int .i64 (sumT l i : Nat) ∧ i ≤ l.length ∧ i ≤ 61 ∧ 61 - i ≤ gm ∧ sumT l i ≤ 733007751850 * i ∧ Hid (Hq w wr [] []))
  case atStart => exact ⟨0, rfl, rfl, by omega, by omega, by omega, by simp [sumT], LL⟩
  case round =>
    clear LL
    obtain ⟨i, rfl, rfl, hil, hi6, hgm, hsm, LL⟩ := hrel
    by_cases hlt : i < l.length ∧ i ≤ 60
    · obtain ⟨hlt, h60⟩ := hlt
      have dlt : decide ((i : Int) < (l.length : Int)) = true := decide_eq_true (by omega)
      have d60 : decide ((i : Int) ≤ 60) = true := decide_eq_true (by omega)
      have hw1 : IntKind.i64.wrap ((i : Int) + 1) = (i : Int) + 1 := by rw [IntKind.wrap_i64]; omega
      obtain ⟨s, hs⟩ : ∃ s, l[i]? = some s := ⟨_, List.getElem?_eq_getElem hlt⟩
      obtain ⟨_, hsl, b, off, SA, sc, hA, hb, _, hrg⟩ := (unhide HR) i s hs
      have HA := hide hA
      have H7 : Hid (∀ X, Fr w X [] → X.cell? ⟨b, off + i * 8 + 7, none⟩ = some (.slice SA s.ps.length sc)) := hide (fun X hX => r7 (rangeAt_fr hrg hb hX))
      have hs1 : sumT l (i + 1) = sumT l i + s.ps.length := by rw [sumT, show l.getD i zeroS = s by simp [hs]]
      have hw2 : IntKind.i64.wrap ((sumT l i : Int) + (s.ps.length : Int)) = (sumT l (i + 1) : Nat) := by rw [hs1, IntKind.wrap_i64]; omega
      have hsm2 : sumT l (i + 1) ≤ 733007751850 * (i + 1) := by rw [hs1]; omega
      have HLT := hide hlt
      have H60 := hide h60
      have HS2 := hide hsm2
      clear hA hb hrg hs hs1 hsl hlt hil hi6 h60 hsm hsm2
      go_wp2_with (first | go_skip | ((with_reducible show wpList _ _ _ _ _ _); first | ((refine rd (by rfl) (ex_lenG 22 34 Tryz.underlying22 rfl rfl) ?_); simp only [Act.put, List.setIfInBounds_toArray, List.set_cons_succ, List.set_cons_zero]) | ((refine rd (by rfl) (ex_indexA 22 8 i unSs idSs rfl rfl (unhide HA) rfl (unhide HLT)) ?_); simp only [Act.put, List.setIfInBounds_toArray, List.set_cons_succ, List.set_cons_zero]) | ((refine rd (by rfl) (ex_loadC 32 Tryz.isAgg32 rfl rfl (unhide H7 _ (unhide LL).fr)) ?_); simp only [Act.put, List.setIfInBounds_toArray, List.set_cons_succ, List.set_cons_zero]) | ((refine rd (by rfl) (ex_lenG 32 61 Tryz.underlying32 rfl rfl) ?_); simp only [Act.put, List.setIfInBounds_toArray, List.set_cons_succ, List.set_cons_zero]) | ((refine rd (by rfl) (ex_addI rfl rfl rfl hw2) ?_); simp only [Act.put, List.setIfInBounds_toArray, List.set_cons_succ, List.set_cons_zero])))
      go_roundg (61 - (i + 1))
      case measure => have := unhide H60; omega
      case rel => exact ⟨i + 1, by go_num, rfl, by have := unhide HLT; omega, by have := unhide H60; omega, by omega, unhide HS2, LL⟩
    · by_cases hll : i < l.length
      · have e61 : i = 61 := by omega
        subst e61
        have d1 : decide ((61 : Int) < (l.length : Int)) = true := decide_eq_true (by omega)
        have d2 : decide ((l.length : Int) ≤ 60) = false := decide_eq_false (by omega)
        clear hlt hil hi6 hgm hsm hll
        go_wp2_with (first | go_skip | ((with_reducible show wpList _ _ _ _ _ _); first | ((refine rd (by rfl) (ex_lenG 22 34 Tryz.underlying22 rfl rfl) ?_); simp only [Act.put, List.setIfInBounds_toArray, List.set_cons_succ, List.set_cons_zero])))
        go_ret
        exact ⟨false, by simp, by simp, (unhide LL).fr.below⟩
      · obtain rfl : i = l.length := by omega
        clear hlt hil hll
        by_cases h60 : l.length ≤ 60
        · have d2 : decide ((l.length : Int) ≤ 60) = true := decide_eq_true (by omega)
          have hd : decide ((sumT l l.length : Int) ≤ 400) = decide (sumT l l.length ≤ 400) := by by_cases h : sumT l l.length ≤ 400 <;> simp [h] <;> omega
          have HF := hide (few_all h60)
          have H6 := hide h60
          clear h60 hgm hsm hi6
          generalize sumT l l.length = n at *
          go_wp2_with (first | go_skip | ((with_reducible show wpList _ _ _ _ _ _); first | ((refine rd (by rfl) (ex_lenG 22 34 Tryz.underlying22 rfl rfl) ?_); simp only [Act.put, List.setIfInBounds_toArray, List.set_cons_succ, List.set_cons_zero])))
          go_ret
          exact ⟨decide (n ≤ 400), by simp [hd], fun h => ⟨unhide H6, unhide HF (by simpa using h)⟩, (unhide LL).fr.below⟩
        · have d2 : decide ((l.length : Int) ≤ 60) = false := decide_eq_false (by omega)
          clear h60 hgm hsm hi6
          go_wp2_with (first | go_skip | ((with_reducible show wpList _ _ _ _ _ _); first | ((refine rd (by rfl) (ex_lenG 22 34 Tryz.underlying22 rfl rfl) ?_); simp only [Act.put, List.setIfInBounds_toArray, List.set_cons_succ, List.set_cons_zero])))
          go_ret
          exact ⟨false, by simp, by simp, (unhide LL).fr.below⟩
theorem num11 (n : Int) (w : World) : Calls Tryz.prog 17 #[.int .i64 n] w fun e w' => e = .returned (.int .i64 n) ∧ w' = w := by
  go_enter Tryz.func17, Tryz.ntmps17
  go_wp2
  go_ret
  exact ⟨rfl, rfl⟩
end Go.Proofs.YtcflglloopgieaaGreatDoor

/-! Kc -/
namespace Go.Proofs.YtcflglloopgieaaGreatDoor
open Go Go.Proofs Go.Maps Go.RowKit FM
set_option linter.unusedSimpArgs false
set_option linter.unusedVariables false
set_option maxHeartbeats 1000000
/-- The course of an object that stands at both moments. -/
def rulC (b a : SH) : CO := ⟨b, none, 0, a, none, 0, false⟩
def RuleP (b a : SH) (r : Int) : Prop := (r = 0 ∧ NoR (rulC b a) 6) ∨ ∃ j : Nat, 0 < j ∧ j < 6 ∧ r = (j : Int) + 1 ∧ rbV (rulC b a) j = true ∧ NoR (rulC b a) j
def nk (l : List PR) (p : PR) : Bool := !(fO l p.k).isSome
theorem no1 (b a : SH) : NoR (rulC b a) 1 := (NoR.zero _).step rfl
theorem r1 {b a : SH} (h : (b.c != a.c) = true) : RuleP b a 2 := .inr ⟨1, by omega, by omega, rfl, by show (a.c != b.c) = true; rw [bne_comm]; exact h, no1 b a⟩
theorem r2 {b a : SH} (h : NoR (rulC b a) 2) (hx : (!b.x && a.x) = true) : RuleP b a 3 := .inr ⟨2, by omega, by omega, rfl, hx, h⟩
theorem r3 {b a : SH} (h : NoR (rulC b a) 3) (hx : (!b.x && !eqB b.p a.p) = true) : RuleP b a 4 := .inr ⟨3, by omega, by omega, rfl, hx, h⟩
theorem r4 {b a : SH} (h : NoR (rulC b a) 4) (hx : (!b.x && a.ps.any (nk b.ps)) = true) : RuleP b a 5 := .inr ⟨4, by omega, by omega, rfl, hx, h⟩
end Go.Proofs.YtcflglloopgieaaGreatDoor

/-! Kf -/
namespace Go.Proofs.YtcflglloopgieaaGreatDoor
open Go Go.Proofs Go.Maps Go.RowKit FM
set_option linter.unusedSimpArgs false
set_option linter.unusedVariables false
set_option maxHeartbeats 1000000
theorem eqB_self' (v : VV) : eqB v v = true := by simp [eqB]
theorem eqD_selfN (d : DD) : eqDD d d = true := by simp [eqDD, eqB_self']
theorem bfr {w X : World} (h : Below w.heap.size w X) : Fr w X [] := Fr.of_below h []
end Go.Proofs.YtcflglloopgieaaGreatDoor

/-! In -/
namespace Go.Proofs.YtcflglloopgieaaGreatDoor
open Go Go.Proofs Go.Maps Go.RowKit FM
set_option linter.unusedSimpArgs false
set_option linter.unusedVariables false
set_option maxHeartbeats 1000000
def flatL (l : List DL) : List Value := l.flatMap DL.cs
theorem flatL_snoc (l : List DL) (d : DL) : flatL (l ++ [d]) = flatL l ++ d.cs := by simp [flatL]
/-- The tale in block t: its row, and the number of the object. -/
structure TI (b0 : Nat) (X : World) (t : Nat) (o : Int) (xs : List DL) (lv : Value) : Prop where
  hold : Holds X t [lv, .int .i64 o]
  own : X.ownsRow b0 65 29 lv xs.length (flatL xs)
  apart : lv.ownBlock ≠ some t
theorem TI.lt {b0 t : Nat} {X : World} {o : Int} {xs : List DL} {lv : Value} (h : TI b0 X t o xs lv) : t < X.heap.size := h.hold.lt (Nat.succ_pos _)
theorem TI.far {b0 t : Nat} {X Y : World} {o : Int} {xs : List DL} {lv : Value} (h : TI b0 X t o xs lv) (h1 : Y.heap[t]? = X.heap[t]?) (h2 : ∀ g, lv.ownBlock = some g → Y.heap[g]? = X.heap[g]?) : TI b0 Y t o xs lv :=
  ⟨h.hold.block h1, own_blk h.own h2, h.apart⟩
theorem TI.on {b0 t : Nat} {X Y : World} {o : Int} {xs : List DL} {lv : Value} (h : TI b0 X t o xs lv) (k : Below X.heap.size X Y) : TI b0 Y t o xs lv :=
  h.far (k.block t h.lt) (fun g hg => k.block g (World.ownsRow.lt h.own g hg).2)
structure TP (X : World) (b0 t : Nat) (o : Int) (xs ds : List DL) (lv lv' : Value) (Y : World) : Prop where
  ti : TI b0 Y t o (xs ++ ds) lv'
  fr : Fr X Y (t :: lv.ownBlock.toList)
  fre : ∀ g, lv'.ownBlock = some g → lv.ownBlock = some g ∨ X.heap.size ≤ g
def TPost (X : World) (b0 t : Nat) (o : Int) (xs ds : List DL) (lv : Value) (e : Ending) (Y : World) : Prop := ∃ lv', e = .returned (.tuple #[]) ∧ TP X b0 t o xs ds lv lv' Y
/-- The tale beside one's own boxes. -/
structure TS (w Z : World) (E : List Nat) (b0 t : Nat) (o : Int) (xs : List DL) (lv : Value) (L : List (Nat × List Value)) : Prop where
  ti : TI b0 Z t o xs lv
  hq : Hq w Z E L
  sep : ∀ q ∈ L, q.1 ≠ t ∧ lv.ownBlock ≠ some q.1
  ct : t ∈ E ∨ w.heap.size ≤ t
  cl : ∀ g, lv.ownBlock = some g → g ∈ E ∨ w.heap.size ≤ g
theorem TS.start {b0 t : Nat} {X : World} {o : Int} {xs : List DL} {lv : Value} (h : TI b0 X t o xs lv) : TS X X (t :: lv.ownBlock.toList) b0 t o xs lv [] :=
  ⟨h, Hq.nil _ _, (fun q hq => by cases hq), .inl (by simp), fun g hg => .inl (by simp [hg])⟩
section
variable {w Z Y : World} {E : List Nat} {b0 t : Nat} {o : Int} {xs ds : List DL} {lv lv' : Value} {L : List (Nat × List Value)}
theorem TS.on (h : TS w Z E b0 t o xs lv L) (k : Below Z.heap.size Z Y) : TS w Y E b0 t o xs lv L := ⟨h.ti.on k, h.hq.on k, h.sep, h.ct, h.cl⟩
theorem TS.drew (h : TS w Z E b0 t o xs lv L) : TS w Z.drew E b0 t o xs lv L := h.on ⟨rfl, rfl, rfl, Nat.le_refl _, fun _ _ => rfl⟩
theorem TS.new (h : TS w Z E b0 t o xs lv L) (cs : List Value) (T : TypeId) (hc : 0 < cs.length) : TS w (Z.alloc (Obj.cells cs.toArray T)) E b0 t o xs lv (L ++ [(Z.heap.size, cs)]) := by
  refine ⟨h.ti.on ((Below.refl _ _).alloc (Nat.le_refl _) _), h.hq.new cs T hc, fun q hq => ?_, h.ct, h.cl⟩
  rcases List.mem_append.1 hq with hq | hq
  · exact h.sep q hq
  · obtain rfl : q = (Z.heap.size, cs) := by simpa using hq
    exact ⟨Nat.ne_of_gt h.ti.lt, fun e => Nat.lt_irrefl _ (World.ownsRow.lt h.ti.own _ e).2⟩
theorem TS.put (h : TS w Z E b0 t o xs lv L) (i : Nat) {b : Nat} {cs : List Value} (hi : L[i]? = some (b, cs)) (p : Nat) (vs : List Value) (hp : p + vs.length ≤ cs.length) (hE : b ∈ E ∨ w.heap.size ≤ b) : TS w (Z.setCells b p vs) E b0 t o xs lv (L.set i (b, cput cs p vs)) := by
  have hs := h.sep _ (List.mem_of_getElem? hi)
  refine ⟨h.ti.far (heap_setCells b vs p Z t (Ne.symm hs.1)) (fun g hg => heap_setCells b vs p Z g (fun e => hs.2 (e ▸ hg))), h.hq.put i hi p vs hp hE, fun q hq => ?_, h.ct, h.cl⟩
  rcases List.mem_or_eq_of_mem_set hq with hq | hq
  · exact h.sep q hq
  · subst hq
    exact hs
theorem TS.tell (h : TS w Z E b0 t o xs lv L) (k : TP Z b0 t o xs ds lv lv' Y) : TS w Y E b0 t o (xs ++ ds) lv' L := by
  refine ⟨k.ti, h.hq.step k.fr (fun b hb => ?_) (fun q hq hb => ?_), fun q hq => ⟨(h.sep q hq).1, fun e => ?_⟩, h.ct, fun g hg => ?_⟩
  · rcases List.mem_cons.1 hb with rfl | hb
    · exact h.ct
    · exact h.cl b (by simpa using hb)
  · rcases List.mem_cons.1 hb with e | hb
    · exact (h.sep q hq).1 e
    · exact (h.sep q hq).2 (by simpa using hb)
  · rcases k.fre _ e with e | e
    · exact (h.sep q hq).2 e
    · have := h.hq.lt q hq
      omega
  · rcases k.fre _ hg with e | e
    · exact h.cl g e
    · exact .inr (Nat.le_trans h.hq.fr.size e)
theorem TS.left {M : List (Nat × List Value)} (h : TS w Z E b0 t o xs lv (L ++ M)) : TS w Z E b0 t o xs lv L := ⟨h.ti, h.hq.left, fun q hq => h.sep q (List.mem_append_left _ hq), h.ct, h.cl⟩
theorem TS.post {b0 t : Nat} {X : World} {o : Int} {xs ds : List DL} {lv lv' : Value} {L : List (Nat × List Value)} {Y : World} (h : TS X Y (t :: lv.ownBlock.toList) b0 t o (xs ++ ds) lv' L) : TP X b0 t o xs ds lv lv' Y :=
  ⟨h.ti, h.hq.fr, fun g hg => by
    rcases h.cl g hg with e | e
    · rcases List.mem_cons.1 e with rfl | e
      · exact absurd hg h.ti.apart
      · exact .inl (by simpa using e)
    · exact .inr e⟩
end
section
variable {ops : Array Oper} {rest : List Oper} {Q : Exit → Act → World → Prop} {w w0 : World} {a : Act} {o : Oper} {E : List Nat} {L : List (Nat × List Value)} {b0 t : Nat} {ob : Int} {xs : List DL} {lv : Value}
theorem bxT {v : Value} {x : Operand} (ty : TypeId) (cs : List Value) (hw : Region.wanted o (yielded ops a.tmps) = true) (ho : o.op = .box ty x) (hx : a.eval x = v) (hv : v.cells.toList = cs) (hc : 0 < cs.length) (hL : TS w0 w E b0 t ob xs lv L)
    (h : ∀ X B, B = w.heap.size → TS w0 X E b0 t ob xs lv (L ++ [(B, cs)]) → Below w.heap.size w X → wpList Tryz.prog ops Q rest (a.put o.dst (.pointer (some ⟨B, 0, none⟩))) X) : wpList Tryz.prog ops Q (o :: rest) a w := by
  refine BigFrame.wpList_want hw fun K hK => ?_
  have e : v.cells = cs.toArray := by rw [← hv]
  have hP := hK _ _ (h _ _ rfl (hL.new cs ty hc) ((Below.refl _ _).alloc (Nat.le_refl _) _))
  have e2 : (Instr.box ty v).run Tryz.prog w = .ok (.pointer (some ⟨w.heap.size, 0, none⟩)) (w.alloc (Obj.cells cs.toArray ty)) := by rw [← e]; rfl
  unfold Oper.wp execOp
  simp only [ho, hx]
  simp [e2]
  exact hP
theorem alT (ty : TypeId) (cs : List Value) (hw : Region.wanted o (yielded ops a.tmps) = true) (ho : o.op = .alloc ty) (hz : ∀ w, (zeroValue ty).run Tryz.prog w = .ok (.agg cs.toArray) w) (hc : 0 < cs.length) (hL : TS w0 w E b0 t ob xs lv L)
    (h : ∀ X B, B = w.heap.size → TS w0 X E b0 t ob xs lv (L ++ [(B, cs)]) → Below w.heap.size w X → wpList Tryz.prog ops Q rest (a.put o.dst (.pointer (some ⟨B, 0, none⟩))) X) : wpList Tryz.prog ops Q (o :: rest) a w := by
  refine BigFrame.wpList_want hw fun K hK => ?_
  have hP := hK _ _ (h _ _ rfl (hL.new cs ty hc) ((Below.refl _ _).alloc (Nat.le_refl _) _))
  unfold Oper.wp execOp
  simp only [ho]
  simp [go_sem, hz, Value.cells]
  exact hP
theorem stT {b p : Nat} {cs vs : List Value} {v : Value} {x y : Operand} (i : Nat) (ty : TypeId) (hw : Region.wanted o (yielded ops a.tmps) = true) (ho : o.op = .store ty x y) (hx : a.eval x = .pointer (some ⟨b, p, none⟩)) (hy : a.eval y = v)
    (hv : v.cells.toList = vs) (h1 : ∀ u ∈ vs, u.oneCell' = true) (hi : (Tryz.prog.info? ty).map (·.size) = some vs.length) (hL : TS w0 w E b0 t ob xs lv L) (hg : L[i]? = some (b, cs)) (hp : p + vs.length ≤ cs.length) (hE : b ∈ E ∨ w0.heap.size ≤ b)
    (h : ∀ X, TS w0 X E b0 t ob xs lv (L.set i (b, cput cs p vs)) → Fr w X [b] → wpList Tryz.prog ops Q rest (a.put o.dst undef) X) : wpList Tryz.prog ops Q (o :: rest) a w := by
  refine BigFrame.wpList_want hw fun K hK => ?_
  have hP := hK _ _ (h _ (hL.put i hg p vs hp hE) (Fr.setCells w b p vs))
  unfold Oper.wp execOp
  simp only [ho, hx, hy, Instr.storeAt, Instr.sureAddr, Sem.run_bind, Sem.run_pure, Result.andThen_ok, run_storeVar_any w b p ty v vs hv ((hL.hq.get i hg).there p vs.length hp) hi h1]
  exact hP
end
def zeroL : DL := ⟨0, 0, 0, false, zeroV, ⟨⟨#[]⟩, 0⟩, zeroD⟩
theorem infL : (Tryz.prog.info? 65).map (fun i => (i.zero, i.size, i.bytes)) = some (some zeroL.agg, 29, 272) := by kernel_rfl
theorem hold_grown {X Y : World} {t : Nat} {cs : List Value} {lv : Value} (h : Holds X t cs) (hl : t < X.heap.size) (hg : X.grownBy Y lv.ownBlock) (hn : lv.ownBlock ≠ some t) : Holds Y t cs := h.block (hg.block t hl (fun e => hn e.symm))
theorem tell_end {w Z Y : World} {E : List Nat} {b0 t : Nat} {o : Int} {xs : List DL} {d : DL} {lv : Value} {L : List (Nat × List Value)} {A : Option Addr} {c : Nat} (h : TS w Z E b0 t o xs lv L) (hL : ∀ q ∈ L, lv.ownBlock ≠ some q.1) (hg : Z.grownBy Y lv.ownBlock) (hO : Y.ownsRow b0 65 29 (.slice A (xs.length + 1) c) (xs.length + 1) (flatL xs ++ d.cs)) (hF : Fresh Z lv (.slice A (xs.length + 1) c)) :
    TS w (Y.setCells t 0 [.slice A (xs.length + 1) c]) E b0 t o (xs ++ [d]) (.slice A (xs.length + 1) c) L := by
  have hfr : Fr Z Y lv.ownBlock.toList := Fr.grown hg
  have hap : (Value.slice A (xs.length + 1) c).ownBlock ≠ some t := by
    intro e
    rcases hF with e2 | e2
    · exact h.ti.apart (e2 ▸ e)
    · have := h.ti.lt
      rw [e2] at e
      have := Option.some.inj e
      omega
  have hH : Holds Y t [lv, .int .i64 o] := hold_grown h.ti.hold h.ti.lt hg h.ti.apart
  have hP := hH.put 0 [.slice A (xs.length + 1) c] (by simp)
  have hne : ∀ g, g ≠ t → (Y.setCells t 0 [.slice A (xs.length + 1) c]).heap[g]? = Y.heap[g]? := fun g hg => heap_setCells t _ 0 Y g hg
  refine ⟨⟨hP, ?_, hap⟩, ?_, fun q hq => ⟨(h.sep q hq).1, fun e => ?_⟩, h.ct, fun g hg2 => ?_⟩
  · rw [flatL_snoc, List.length_append]
    exact own_blk hO (fun g hg2 => hne g (fun e => hap (e ▸ hg2)))
  · refine (h.hq.step hfr (fun b hb => h.cl b (by simpa using hb)) (fun q hq hb => hL q hq (by simpa using hb))).step (Fr.setCells Y t 0 _) (fun b hb => ?_) (fun q hq hb => ?_)
    · obtain rfl : b = t := by simpa using hb
      exact h.ct
    · exact (h.sep q hq).1 (by simpa using hb)
  · rcases hF with e2 | e2
    · exact hL q hq (e2 ▸ e)
    · have := h.hq.lt q hq
      rw [e2] at e
      have := Option.some.inj e
      omega
  · rcases hF with e2 | e2
    · exact h.cl g (e2 ▸ hg2)
    · rw [e2] at hg2
      obtain rfl := Option.some.inj hg2
      exact .inr h.hq.fr.size
set_option maxHeartbeats 2000000 in
set_option maxRecDepth 100000 in
theorem tell_any (d : DL) (b0 t : Nat) (o : Int) (xs : List DL) (lv : Value) (X : World) (hT : TI b0 X t o xs lv) (hx : xs.length ≤ 100000) (h0 : b0 ≤ X.heap.size) : Calls Tryz.prog 52 #[.pointer (some ⟨t, 0, none⟩), d.agg] X (TPost X b0 t o xs [⟨o, d.wh, d.n, d.y, d.v, d.k, d.d⟩] lv) := by
  unfold DL.agg
  have LL := hide (TS.start hT)
  have HX := hide hx
  have H0 := hide h0
  clear hT hx h0
  go_enter Tryz.func52, Tryz.ntmps52
  go_wp2_with (first | go_skip | ((with_reducible show wpList _ _ _ _ _ _); first | ((refine bxT 65 d.cs (by rfl) rfl rfl rfl (Nat.succ_pos _) (unhide LL) ?_); intro X1 B1 hE1 L1 hb1; have hB1 := hide (Nat.le_of_eq hE1.symm); replace LL := hide L1; clear L1 hb1 hE1; simp only [Act.put, List.setIfInBounds_toArray, List.set_cons_succ, List.set_cons_zero]) | ((refine rd (by rfl) (ex_load1 3 Tryz.isAgg3 rfl rfl ((unhide LL).ti.hold) rfl) ?_); simp only [Act.put, List.setIfInBounds_toArray, List.set_cons_succ, List.set_cons_zero]) | ((refine stT (vs := [.int .i64 o]) 0 3 (by rfl) rfl rfl rfl rfl (by simp [Value.oneCell']) szI (unhide LL) rfl (by simp [DL.cs, VV.cs, KK.cs, DD.cs]) (Or.inr (unhide hB1)) ?_); intro X2 L2 hf2; replace LL := hide L2; clear L2 hf2; simp only [Act.put, List.setIfInBounds_toArray, List.set_cons_succ, List.set_cons_zero])))
  have hs0 : TS X _ (t :: lv.ownBlock.toList) b0 t o xs lv [(B1, DL.cs ⟨o, d.wh, d.n, d.y, d.v, d.k, d.d⟩)] := (unhide LL).drew
  refine wp_region_held_drew (P := Tryz.prog) (S := fun _ => True) (by kernel_rfl) trivial (fun hS0 => ?_)
  refine gsem 0 (some 9) (.pointer (some ⟨t, 0, none⟩)) rfl (by kernel_rfl) (by kernel_rfl) (by kernel_rfl) (fun _ _ _ h => h) (by kernel_rfl) (by kernel_rfl) (fun _ _ => by kernel_rfl) trivial ?_
  simp only [Act.put, List.setIfInBounds_toArray, List.set_cons_succ, List.set_cons_zero]
  refine gsem 1 (some 10) (.pointer (some ⟨t, 0, none⟩)) rfl (by kernel_rfl) (by kernel_rfl) (by kernel_rfl) (fun _ _ _ h => h) (by kernel_rfl) (by kernel_rfl) (fun _ _ => by kernel_rfl) trivial ?_
  simp only [Act.put, List.setIfInBounds_toArray, List.set_cons_succ, List.set_cons_zero]
  refine gsem 2 (some 11) (.pointer (some ⟨t, 0, none⟩)) rfl (by kernel_rfl) (by kernel_rfl) (by kernel_rfl) (fun _ _ _ h => h) (by kernel_rfl) (by kernel_rfl) (fun _ _ => by kernel_rfl) trivial ?_
  simp only [Act.put, List.setIfInBounds_toArray, List.set_cons_succ, List.set_cons_zero]
  refine gsem 3 (some 12) (.pointer (some ⟨t, 0, none⟩)) rfl (by kernel_rfl) (by kernel_rfl) (by kernel_rfl) (fun _ _ _ h => h) (by kernel_rfl) (by kernel_rfl) (fun _ _ => by kernel_rfl) trivial ?_
  simp only [Act.put, List.setIfInBounds_toArray, List.set_cons_succ, List.set_cons_zero]
  refine wpAnyH_ready (rs := [4, 5]) (by kernel_rfl) (by simp) (gval 4 (some 13) rfl (by kernel_rfl) (by kernel_rfl) (ex_load1 36 Tryz.isAgg36 rfl rfl (hs0.ti.hold) rfl) trivial ?_ (gval 5 (some 14) rfl (by kernel_rfl) (by kernel_rfl) (ex_loadN (vs := DL.cs ⟨o, d.wh, d.n, d.y, d.v, d.k, d.d⟩) 65 29 rwL szL rfl rfl (hs0.hq.get 0 rfl) rfl rfl) trivial ?_ AllReadyH.nil))
  · simp only [Act.put, List.setIfInBounds_toArray, List.set_cons_succ, List.set_cons_zero]
    refine wpAnyH_ready (rs := [5]) (by kernel_rfl) (by simp) (gval 5 (some 14) rfl (by kernel_rfl) (by kernel_rfl) (ex_loadN (vs := DL.cs ⟨o, d.wh, d.n, d.y, d.v, d.k, d.d⟩) 65 29 rwL szL rfl rfl (hs0.hq.get 0 rfl) rfl rfl) trivial ?_ AllReadyH.nil)
    simp only [Act.put, List.setIfInBounds_toArray, List.set_cons_succ, List.set_cons_zero]
    refine wpAnyH_ready (rs := [6]) (by kernel_rfl) (by simp) (gval 6 (some 15) rfl (by kernel_rfl) (by kernel_rfl) (ex_buildS (cs := DL.cs ⟨o, d.wh, d.n, d.y, d.v, d.k, d.d⟩) rfl rfl Tryz.underlying36 infL (by decide) rfl rfl (by decide)) trivial ?_ AllReadyH.nil)
    simp only [Act.put, List.setIfInBounds_toArray, List.set_cons_succ, List.set_cons_zero]
    have hs6 := hs0.new (DL.cs ⟨o, d.wh, d.n, d.y, d.v, d.k, d.d⟩) 65 (Nat.succ_pos _)
    refine wpAnyH_ready (rs := [7]) (by kernel_rfl) (by simp) (gappF (base := b0) (size := 29) (bytes := 272) (k := xs.length) (m := 1) (news := DL.cs ⟨o, d.wh, d.n, d.y, d.v, d.k, d.d⟩) (xs := flatL xs) (v := lv) 7 (some 16) rfl (by kernel_rfl) (by kernel_rfl) rfl rfl rfl Tryz.underlying36 infL rfl (by decide) hs6.ti.own (hs6.hq.get 1 rfl) rfl (dlcs_one _) (by have := unhide HX; omega) (by decide) (Nat.le_trans (unhide H0) hs6.hq.fr.size) (fun _ _ => trivial) ?_ AllReadyH.nil)
    intro A6 c6 X6 hO6 hg6 hF6
    simp only [Act.put, List.setIfInBounds_toArray, List.set_cons_succ, List.set_cons_zero]
    refine gsem 8 (some 17) (.pointer (some ⟨t, 0, none⟩)) rfl (by kernel_rfl) (by kernel_rfl) (by kernel_rfl) (fun _ _ _ h => h) (by kernel_rfl) (by kernel_rfl) (fun _ _ => by kernel_rfl) trivial ?_
    simp only [Act.put, List.setIfInBounds_toArray, List.set_cons_succ, List.set_cons_zero]
    refine gsem 9 (some 18) (.pointer (some ⟨t, 0, none⟩)) rfl (by kernel_rfl) (by kernel_rfl) (by kernel_rfl) (fun _ _ _ h => h) (by kernel_rfl) (by kernel_rfl) (fun _ _ => by kernel_rfl) trivial ?_
    simp only [Act.put, List.setIfInBounds_toArray, List.set_cons_succ, List.set_cons_zero]
    refine wpAnyH_ready (rs := [10]) (by kernel_rfl) (by simp) (gskp 10 none rfl (by kernel_rfl) (by kernel_rfl) (ex_store (t := 36) (vs := [.slice A6 (xs.length + 1) c6]) rfl rfl rfl rfl (by simp [Value.oneCell']) szLs (hold_grown hs6.ti.hold hs6.ti.lt hg6 hs6.ti.apart) (by simp)) trivial ?_ AllReadyH.nil)
    simp only [Act.put, List.setIfInBounds_toArray, List.set_cons_succ, List.set_cons_zero]
    have hfin := tell_end hs6 (fun q hq => (hs6.sep q hq).2) hg6 hO6 hF6
    refine wpAnyH_done (by kernel_rfl) ?_ _
    try simp only [Act.put, List.setIfInBounds_toArray, List.set_cons_succ, List.set_cons_zero]
    go_wp2
    go_end0
    exact ⟨_, rfl, hfin.post⟩
  · simp only [Act.put, List.setIfInBounds_toArray, List.set_cons_succ, List.set_cons_zero]
    refine wpAnyH_ready (rs := [4, 6]) (by kernel_rfl) (by simp) (gval 4 (some 13) rfl (by kernel_rfl) (by kernel_rfl) (ex_load1 36 Tryz.isAgg36 rfl rfl (hs0.ti.hold) rfl) trivial ?_ (gval 6 (some 15) rfl (by kernel_rfl) (by kernel_rfl) (ex_buildS (cs := DL.cs ⟨o, d.wh, d.n, d.y, d.v, d.k, d.d⟩) rfl rfl Tryz.underlying36 infL (by decide) rfl rfl (by decide)) trivial ?_ AllReadyH.nil))
    · simp only [Act.put, List.setIfInBounds_toArray, List.set_cons_succ, List.set_cons_zero]
      refine wpAnyH_ready (rs := [6]) (by kernel_rfl) (by simp) (gval 6 (some 15) rfl (by kernel_rfl) (by kernel_rfl) (ex_buildS (cs := DL.cs ⟨o, d.wh, d.n, d.y, d.v, d.k, d.d⟩) rfl rfl Tryz.underlying36 infL (by decide) rfl rfl (by decide)) trivial ?_ AllReadyH.nil)
      simp only [Act.put, List.setIfInBounds_toArray, List.set_cons_succ, List.set_cons_zero]
      have hs6 := hs0.new (DL.cs ⟨o, d.wh, d.n, d.y, d.v, d.k, d.d⟩) 65 (Nat.succ_pos _)
      refine wpAnyH_ready (rs := [7]) (by kernel_rfl) (by simp) (gappF (base := b0) (size := 29) (bytes := 272) (k := xs.length) (m := 1) (news := DL.cs ⟨o, d.wh, d.n, d.y, d.v, d.k, d.d⟩) (xs := flatL xs) (v := lv) 7 (some 16) rfl (by kernel_rfl) (by kernel_rfl) rfl rfl rfl Tryz.underlying36 infL rfl (by decide) hs6.ti.own (hs6.hq.get 1 rfl) rfl (dlcs_one _) (by have := unhide HX; omega) (by decide) (Nat.le_trans (unhide H0) hs6.hq.fr.size) (fun _ _ => trivial) ?_ AllReadyH.nil)
      intro A6 c6 X6 hO6 hg6 hF6
      simp only [Act.put, List.setIfInBounds_toArray, List.set_cons_succ, List.set_cons_zero]
      refine gsem 8 (some 17) (.pointer (some ⟨t, 0, none⟩)) rfl (by kernel_rfl) (by kernel_rfl) (by kernel_rfl) (fun _ _ _ h => h) (by kernel_rfl) (by kernel_rfl) (fun _ _ => by kernel_rfl) trivial ?_
      simp only [Act.put, List.setIfInBounds_toArray, List.set_cons_succ, List.set_cons_zero]
      refine gsem 9 (some 18) (.pointer (some ⟨t, 0, none⟩)) rfl (by kernel_rfl) (by kernel_rfl) (by kernel_rfl) (fun _ _ _ h => h) (by kernel_rfl) (by kernel_rfl) (fun _ _ => by kernel_rfl) trivial ?_
      simp only [Act.put, List.setIfInBounds_toArray, List.set_cons_succ, List.set_cons_zero]
      refine wpAnyH_ready (rs := [10]) (by kernel_rfl) (by simp) (gskp 10 none rfl (by kernel_rfl) (by kernel_rfl) (ex_store (t := 36) (vs := [.slice A6 (xs.length + 1) c6]) rfl rfl rfl rfl (by simp [Value.oneCell']) szLs (hold_grown hs6.ti.hold hs6.ti.lt hg6 hs6.ti.apart) (by simp)) trivial ?_ AllReadyH.nil)
      simp only [Act.put, List.setIfInBounds_toArray, List.set_cons_succ, List.set_cons_zero]
      have hfin := tell_end hs6 (fun q hq => (hs6.sep q hq).2) hg6 hO6 hF6
      refine wpAnyH_done (by kernel_rfl) ?_ _
      try simp only [Act.put, List.setIfInBounds_toArray, List.set_cons_succ, List.set_cons_zero]
      go_wp2
      go_end0
      exact ⟨_, rfl, hfin.post⟩
    · simp only [Act.put, List.setIfInBounds_toArray, List.set_cons_succ, List.set_cons_zero]
      have hs6 := hs0.new (DL.cs ⟨o, d.wh, d.n, d.y, d.v, d.k, d.d⟩) 65 (Nat.succ_pos _)
      refine wpAnyH_ready (rs := [4]) (by kernel_rfl) (by simp) (gval 4 (some 13) rfl (by kernel_rfl) (by kernel_rfl) (ex_load1 36 Tryz.isAgg36 rfl rfl (hs6.ti.hold) rfl) trivial ?_ AllReadyH.nil)
      simp only [Act.put, List.setIfInBounds_toArray, List.set_cons_succ, List.set_cons_zero]
      refine wpAnyH_ready (rs := [7]) (by kernel_rfl) (by simp) (gappF (base := b0) (size := 29) (bytes := 272) (k := xs.length) (m := 1) (news := DL.cs ⟨o, d.wh, d.n, d.y, d.v, d.k, d.d⟩) (xs := flatL xs) (v := lv) 7 (some 16) rfl (by kernel_rfl) (by kernel_rfl) rfl rfl rfl Tryz.underlying36 infL rfl (by decide) hs6.ti.own (hs6.hq.get 1 rfl) rfl (dlcs_one _) (by have := unhide HX; omega) (by decide) (Nat.le_trans (unhide H0) hs6.hq.fr.size) (fun _ _ => trivial) ?_ AllReadyH.nil)
      intro A6 c6 X6 hO6 hg6 hF6
      simp only [Act.put, List.setIfInBounds_toArray, List.set_cons_succ, List.set_cons_zero]
      refine gsem 8 (some 17) (.pointer (some ⟨t, 0, none⟩)) rfl (by kernel_rfl) (by kernel_rfl) (by kernel_rfl) (fun _ _ _ h => h) (by kernel_rfl) (by kernel_rfl) (fun _ _ => by kernel_rfl) trivial ?_
      simp only [Act.put, List.setIfInBounds_toArray, List.set_cons_succ, List.set_cons_zero]
      refine gsem 9 (some 18) (.pointer (some ⟨t, 0, none⟩)) rfl (by kernel_rfl) (by kernel_rfl) (by kernel_rfl) (fun _ _ _ h => h) (by kernel_rfl) (by kernel_rfl) (fun _ _ => by kernel_rfl) trivial ?_
      simp only [Act.put, List.setIfInBounds_toArray, List.set_cons_succ, List.set_cons_zero]
      refine wpAnyH_ready (rs := [10]) (by kernel_rfl) (by simp) (gskp 10 none rfl (by kernel_rfl) (by kernel_rfl) (ex_store (t := 36) (vs := [.slice A6 (xs.length + 1) c6]) rfl rfl rfl rfl (by simp [Value.oneCell']) szLs (hold_grown hs6.ti.hold hs6.ti.lt hg6 hs6.ti.apart) (by simp)) trivial ?_ AllReadyH.nil)
      simp only [Act.put, List.setIfInBounds_toArray, List.set_cons_succ, List.set_cons_zero]
      have hfin := tell_end hs6 (fun q hq => (hs6.sep q hq).2) hg6 hO6 hF6
      refine wpAnyH_done (by kernel_rfl) ?_ _
      try simp only [Act.put, List.setIfInBounds_toArray, List.set_cons_succ, List.set_cons_zero]
      go_wp2
      go_end0
      exact ⟨_, rfl, hfin.post⟩
end Go.Proofs.YtcflglloopgieaaGreatDoor
