import Derived.Test.YtkpfikeggleenaaDoorYk
import Derived.Test.YtkpfikeggleenaaDoorYm
namespace Go.Proofs.YtkpfikeggleenaaDoor
open Go Go.Proofs Go.Maps Go.RowKit
set_option linter.unusedSimpArgs false
set_option linter.unusedVariables false
set_option maxHeartbeats 1000000
/-! A map from numbers to numbers. -/
theorem law3 : Keyed Tryd.prog 3 := int_keyed Tryd.underlying3
def kI (k : Nat) : Lit := .int .i64 (k : Nat)
theorem kI_wf {k : Nat} (h : k < 1000000) : (Lit.int .i64 (k : Nat)).wf = true := by
  show (decide (IntKind.i64.min ≤ (k : Int)) && decide ((k : Int) ≤ IntKind.i64.max)) = true
  have e1 : IntKind.i64.min = -9223372036854775808 := by decide
  have e2 : IntKind.i64.max = 9223372036854775807 := by decide
  rw [e1, e2, Bool.and_eq_true]
  exact ⟨decide_eq_true (by omega), decide_eq_true (by omega)⟩
theorem keyOfI {k : Nat} (h : k < 1000000) : keyOf Tryd.prog 3 (.int .i64 (k : Nat)) = some (kI k) := keyOf_int_mk Tryd.underlying3 (kI_wf h)
theorem kI_inj {j k : Nat} (e : kI j = kI k) : j = k := by
  have : (j : Int) = k := by simpa [kI] using e
  omega
def MapI (w : World) (b n : Nat) (G : Nat → Int) : Prop := ∃ D : DataW Unit, w.ownsMap Tryd.prog 3 intR b n D ∧ ∀ k, k < 1000000 → D.atKey (kI k) (zl 0) = zl (G k)
section
variable {w w' : World} {b n : Nat} {G : Nat → Int}
theorem MapI.made (w : World) : MapI (w.alloc (.map #[] 0)) w.heap.size 0 (fun _ => 0) := ⟨_, World.ownsMap_made w _ _ _, fun k _ => rfl⟩
theorem MapI.lt (h : MapI w b n G) : b < w.heap.size := by
  obtain ⟨D, h, -⟩ := h
  exact h.lt
theorem MapI.block (h : MapI w b n G) (he : w'.heap[b]? = w.heap[b]?) : MapI w' b n G := by
  obtain ⟨D, ⟨es, clock, hb, Ft, hs, hD⟩, h3⟩ := h
  exact ⟨D, ⟨es, clock, he.trans hb, Ft, hs, hD⟩, h3⟩
theorem MapI.look (h : MapI w b n G) {k : Nat} (hk : k < 1000000) : (Instr.lookup 38 (.map (some b)) (.int .i64 (k : Nat)) false).run Tryd.prog w = .ok (.int .i64 (G k)) w := by
  obtain ⟨D, h, h3⟩ := h
  obtain ⟨v, ps, hrun, hv⟩ := h.lookup law3 Tryd.underlying38 (zero3 w) (intR_int 0) (keyOfI hk)
  have hv' : intR v = some (zl (G k), ps) := by rw [← h3 k hk]; exact hv
  rw [hrun, intR_inv hv']
def putI (G : Nat → Int) (k : Nat) (c : Int) : Nat → Int := fun q => if q = k then c else G q
theorem MapI.store (h : MapI w b n G) {k : Nat} (hk : k < 1000000) (hn : n < maxLen) (c : Int) :
    ∃ w', (Instr.mapUpdate 38 (.map (some b)) (.int .i64 (k : Nat)) (.int .i64 c)).run Tryd.prog w = .ok () w' ∧ MapI w' b (n + 1) (putI G k c) ∧ w.mapTurned w' b := by
  obtain ⟨D, h, h3⟩ := h
  obtain ⟨w', hrun, ho, ht⟩ := h.store law3 Tryd.underlying38 hn (keyOfI hk) (intR_int c)
  have ti := h.tidy law3
  refine ⟨w', hrun, ⟨_, ho, fun q hq => ?_⟩, ht⟩
  by_cases e : q = k
  · subst e
    rw [atKey_put_same ti.isMap (law3.key (keyOfI hk))]
    unfold putI
    rw [if_pos rfl]
  · have ne : kI q ≠ kI k := fun e' => e (kI_inj e')
    rw [atKey_put_other ne]
    unfold putI
    rw [if_neg e]
    exact h3 q hq
end
section
variable {ops : Array Oper} {rest : List Oper} {Q : Exit → Act → World → Prop} {w w0 : World} {a : Act} {o : Oper} {E : List Nat} {L : List (Nat × List Value)}
theorem mmI (hw : Region.wanted o (yielded ops a.tmps) = true) (ho : o.op = .makeMap 38 none) (hL : Hq w0 w E L)
    (h : ∀ X B, B = w.heap.size → Hq w0 X E L → MapI X B 0 (fun _ => 0) → B < X.heap.size → Below w.heap.size w X → wpList Tryd.prog ops Q rest (a.put o.dst (.map (some B))) X) : wpList Tryd.prog ops Q (o :: rest) a w := by
  refine BigFrame.wpList_want hw fun K hK => ?_
  have bl : Below w.heap.size w (w.alloc (Obj.map #[] 0)) := (Below.refl _ _).alloc (Nat.le_refl _) _
  have hP := hK _ _ (h _ _ rfl (hL.on bl) (MapI.made w) (by simp) bl)
  have e := @run_makeMap Tryd.prog
  unfold Oper.wp execOp
  simp only [ho]
  simp [e]
  exact hP
theorem ex_lookI {m x : Operand} {b n k : Nat} {G : Nat → Int} (ho : o.op = .lookup 38 m x false) (hm : a.eval m = .map (some b)) (hx : a.eval x = .int .i64 (k : Nat)) (h : MapI w b n G) (hk : k < 1000000) {c : Int} (hc : G k = c) : (execOp a.eval o).run Tryd.prog w = .ok (.value (.int .i64 c)) w := by
  subst hc
  simp [execOp, ho, hm, hx, h.look hk, Result.andThen]
theorem updS {m x y : Operand} {b n sz r : Nat} {F : ByteArray → Option Nat} {s : ByteArray} (hw : Region.wanted o (yielded ops a.tmps) = true) (ho : o.op = .mapUpdate 37 m x y) (hm : a.eval m = .map (some b)) (hx : a.eval x = .string s) (hy : a.eval y = .int .i64 (r : Nat)) (h : MapS w b n sz F) (hk : OkS s) (hn : n < maxLen)
    (hh : ∀ X, MapS X b (n + 1) (if (F s).isSome then sz else sz + 1) (putS F s r) → Fr w X [b] → wpList Tryd.prog ops Q rest (a.put o.dst undef) X) : wpList Tryd.prog ops Q (o :: rest) a w := by
  obtain ⟨X, h1, h2, h3⟩ := ex_updS ho hm hx hy h hk hn
  refine BigFrame.wpList_want hw fun K hK => ?_
  have hP := hK _ _ (hh X h2 h3)
  unfold Oper.wp
  rw [h1]
  exact hP
theorem updI {m x y : Operand} {b n k : Nat} {G : Nat → Int} {c : Int} (hw : Region.wanted o (yielded ops a.tmps) = true) (ho : o.op = .mapUpdate 38 m x y) (hm : a.eval m = .map (some b)) (hx : a.eval x = .int .i64 (k : Nat)) (hy : a.eval y = .int .i64 c) (h : MapI w b n G) (hk : k < 1000000) (hn : n < maxLen)
    (hh : ∀ X, MapI X b (n + 1) (putI G k c) → Fr w X [b] → wpList Tryd.prog ops Q rest (a.put o.dst undef) X) : wpList Tryd.prog ops Q (o :: rest) a w := by
  obtain ⟨X, h1, h2, h3⟩ := h.store hk hn c
  refine BigFrame.wpList_want hw fun K hK => ?_
  have hP := hK _ _ (hh X h2 (Fr.grown h3.grown))
  unfold Oper.wp
  have e : (execOp a.eval o).run Tryd.prog w = .ok .skip X := by
    unfold execOp
    simp only [ho, hm, hx, hy]
    simp [h1]
  rw [e]
  exact hP
end
/-! The law's state. -/
structure KS (w wr : World) (r m M1 M2 : Nat) (sv : Value) (ll : List SY) (F : ByteArray → Option Nat) (sz : Nat) (G : Nat → Int) (n n1 n2 : Nat) : Prop where
  reg : (RG.mk r m sv ll).Is wr n sz F
  fst : MapS wr M1 n1 sz F
  tak : MapI wr M2 n2 G
  fr : Fr w wr []
  ge : ∀ b ∈ (RG.mk r m sv ll).blocks, w.heap.size ≤ b
  g1 : w.heap.size ≤ M1
  g2 : w.heap.size ≤ M2
  a1 : M1 ∉ (RG.mk r m sv ll).blocks
  a2 : M2 ∉ (RG.mk r m sv ll).blocks
  a12 : M1 ≠ M2
  kn : ∀ s, OkS s → ∀ k, F s = some k → (sV s).good = true ∧ ∃ j, k = j + 1 ∧ ll[j]? = some (SY.mk (sV s) true)
  tk : ∀ k, ll.length < k → k < 1000000 → G k = 0
section
variable {w wr X : World} {r m M1 M2 : Nat} {sv sv' : Value} {ll : List SY} {F : ByteArray → Option Nat} {sz : Nat} {G : Nat → Int} {n n1 n2 : Nat}
theorem KS.on (h : KS w wr r m M1 M2 sv ll F sz G n n1 n2) (hb : Below wr.heap.size wr X) : KS w X r m M1 M2 sv ll F sz G n n1 n2 :=
  ⟨h.reg.on hb, h.fst.block (hb.block _ h.fst.lt), h.tak.block (hb.block _ h.tak.lt), h.fr.on hb, h.ge, h.g1, h.g2, h.a1, h.a2, h.a12, h.kn, h.tk⟩
theorem blocks_of {l l' : List SY} {M : Nat} (h : M ∉ (RG.mk r m sv l).blocks) (hM : M < wr.heap.size) (hS : ∀ g, sv'.ownBlock = some g → sv.ownBlock = some g ∨ wr.heap.size ≤ g) : M ∉ (RG.mk r m sv' l').blocks := by
  intro hb
  unfold RG.blocks at hb h
  simp only [List.mem_cons, not_or] at hb h
  rcases hb with hb | hb | hb
  · exact h.1 hb
  · exact h.2.1 hb
  · rcases hS M (by simpa using hb) with e | e
    · exact h.2.2 (by rw [e]; simp)
    · omega
/-- A symbol more; the map is as it was. -/
theorem KS.made {y : SY} (h : KS w wr r m M1 M2 sv ll F sz G n n1 n2) (hI : (RG.mk r m sv' (ll ++ [y])).Is X n sz F) (hF : Fr wr X (RG.mk r m sv ll).blocks) (hS : ∀ g, sv'.ownBlock = some g → sv.ownBlock = some g ∨ wr.heap.size ≤ g) : KS w X r m M1 M2 sv' (ll ++ [y]) F sz G n n1 n2 :=
  ⟨hI, h.fst.block (hF.block _ h.fst.lt h.a1), h.tak.block (hF.block _ h.tak.lt h.a2), h.fr.trans hF (fun b hb => .inr (h.ge b hb)), RG.ge_of h.ge hS h.fr.size, h.g1, h.g2, blocks_of h.a1 h.fst.lt hS, blocks_of h.a2 h.tak.lt hS, h.a12,
    fun s hs k hk => by
      obtain ⟨h1, j, h2, h3⟩ := h.kn s hs k hk
      exact ⟨h1, j, h2, by rw [List.getElem?_append_left (List.getElem?_eq_some_iff.1 h3).1]; exact h3⟩,
    fun k hk => h.tk k (by rw [List.length_append] at hk; simp at hk; omega)⟩
/-- A text more, and both maps told. -/
theorem KS.fresh {s : ByteArray} {X1 X2 X3 : World} (h : KS w wr r m M1 M2 sv ll F sz G n n1 n2) (hg : (sV s).good = true) (hk : OkS s) (hI : (RG.mk r m sv' (ll ++ [SY.mk (sV s) true])).Is X1 (n + 1) (sz + 1) (putS F s (ll.length + 1))) (hF : Fr wr X1 (RG.mk r m sv ll).blocks) (hS : ∀ g, sv'.ownBlock = some g → sv.ownBlock = some g ∨ wr.heap.size ≤ g)
    (hM : MapS X2 M1 (n1 + 1) (sz + 1) (putS F s (ll.length + 1))) (h2 : Fr X1 X2 [M1]) (hN : MapI X3 M2 (n2 + 1) (putI G (ll.length + 1) 1)) (h3 : Fr X2 X3 [M2]) : KS w X3 r m M1 M2 sv' (ll ++ [SY.mk (sV s) true]) (putS F s (ll.length + 1)) (sz + 1) (putI G (ll.length + 1) 1) (n + 1) (n1 + 1) (n2 + 1) := by
  have a1' := blocks_of (l' := ll ++ [SY.mk (sV s) true]) h.a1 h.fst.lt hS
  have a2' := blocks_of (l' := ll ++ [SY.mk (sV s) true]) h.a2 h.tak.lt hS
  refine ⟨(hI.fr h2 (fun b hb he => ?_)).fr h3 (fun b hb he => ?_), hM.block (h3.block _ hM.lt (by simpa using h.a12)), hN, ?_, RG.ge_of h.ge hS h.fr.size, h.g1, h.g2, a1', a2', h.a12, ?_, ?_⟩
  · obtain rfl : b = M1 := by simpa using he
    exact a1' hb
  · obtain rfl : b = M2 := by simpa using he
    exact a2' hb
  · exact ((h.fr.trans hF (fun b hb => .inr (h.ge b hb))).trans h2 (fun b hb => .inr (by
      obtain rfl : b = M1 := by simpa using hb
      exact h.g1))).trans h3 (fun b hb => .inr (by
      obtain rfl : b = M2 := by simpa using hb
      exact h.g2))
  · intro t ht k hkk
    unfold putS at hkk
    split at hkk
    · rename_i e
      subst e
      refine ⟨hg, ll.length, (Option.some.inj hkk).symm, by simp⟩
    · obtain ⟨h1, j, h4, h5⟩ := h.kn t ht k hkk
      exact ⟨h1, j, h4, by rw [List.getElem?_append_left (List.getElem?_eq_some_iff.1 h5).1]; exact h5⟩
  · intro k hk1 hk2
    rw [List.length_append] at hk1
    simp at hk1
    unfold putI
    rw [if_neg (by omega)]
    exact h.tk k (by omega) hk2
/-- A text that is known, and both maps told again. -/
theorem KS.again {s : ByteArray} {k : Nat} {X1 X2 X3 : World} (h : KS w wr r m M1 M2 sv ll F sz G n n1 n2) (hk : OkS s) (hf : F s = some k) (h1 : Below wr.heap.size wr X1)
    (hM : MapS X2 M1 (n1 + 1) sz (putS F s k)) (h2 : Fr X1 X2 [M1]) (hN : MapI X3 M2 (n2 + 1) (putI G k 1)) (h3 : Fr X2 X3 [M2]) : KS w X3 r m M1 M2 sv ll F sz (putI G k 1) n (n1 + 1) (n2 + 1) := by
  have hF : putS F s k = F := by
    funext q
    unfold putS
    split
    · rename_i e
      rw [e, hf]
    · rfl
  rw [hF] at hM
  have h' := h.on h1
  refine ⟨(h'.reg.fr h2 (fun b hb he => ?_)).fr h3 (fun b hb he => ?_), hM.block (h3.block _ hM.lt (by simpa using h.a12)), hN, ?_, h.ge, h.g1, h.g2, h.a1, h.a2, h.a12, h.kn, ?_⟩
  · obtain rfl : b = M1 := by simpa using he
    exact h.a1 hb
  · obtain rfl : b = M2 := by simpa using he
    exact h.a2 hb
  · exact (h'.fr.trans h2 (fun b hb => .inr (by
      obtain rfl : b = M1 := by simpa using hb
      exact h.g1))).trans h3 (fun b hb => .inr (by
      obtain rfl : b = M2 := by simpa using hb
      exact h.g2))
  · intro q hq1 hq2
    obtain ⟨-, j, e, hj⟩ := h.kn s hk k hf
    have := (List.getElem?_eq_some_iff.1 hj).1
    unfold putI
    rw [if_neg (by omega)]
    exact h.tk q hq1 hq2
end
end Go.Proofs.YtkpfikeggleenaaDoor
