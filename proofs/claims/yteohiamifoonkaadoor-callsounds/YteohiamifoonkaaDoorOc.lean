import Derived.Test.YteohiamifoonkaaDoorOb
namespace Go.Proofs.YteohiamifoonkaaDoor
open Go Go.Proofs Go.Maps Go.RowKit FM
set_option linter.unusedSimpArgs false
set_option linter.unusedVariables false
set_option maxHeartbeats 1000000
theorem alG {ops : Array Oper} {rest : List Oper} {Q : Exit → Act → World → Prop} {w w0 : World} {a : Act} {o : Oper} {E : List Nat} {L : List (Nat × List Value)} (t : TypeId) (cs : List Value) (hw : Region.wanted o (yielded ops a.tmps) = true) (ho : o.op = .alloc t) (hz : ∀ w, (zeroValue t).run Tryd.prog w = .ok (.agg cs.toArray) w) (hc : 0 < cs.length) (hL : Hq w0 w E L)
    (h : ∀ X B, B = w.heap.size → Hq w0 X E (L ++ [(B, cs)]) → Below w.heap.size w X → wpList Tryd.prog ops Q rest (a.put o.dst (.pointer (some ⟨B, 0, none⟩))) X) : wpList Tryd.prog ops Q (o :: rest) a w := by
  refine BigFrame.wpList_want hw fun K hK => ?_
  have hP := hK _ _ (h _ _ rfl (hL.new cs t hc) ((Below.refl _ _).alloc (Nat.le_refl _) _))
  unfold Oper.wp execOp
  simp only [ho]
  simp [go_sem, hz, Value.cells]
  exact hP
theorem ret_c {fn : Func} {R : Ending → World → Prop} {a : Act} {w : World} {b r T n : Nat} {cs : List Value} (hT : ∃ d, Tryd.prog.underlying T = some d ∧ d.isRow = true) (hn : (Tryd.prog.info? T).map (·.size) = some n) (hr : fn.results = #[.cell r T]) (hdf : a.defers = [])
    (hx : a.tmps.getD r undef = .pointer (some ⟨b, 0, none⟩)) (hc : Holds w b cs) (hcs : cs.length = n) (h : R (.returned (.agg cs.toArray)) w) : bodyPost Tryd.prog fn R .ret a w := by
  obtain ⟨t, hu, hd⟩ := hT
  have h0 := hc.mid 0 n
  rw [List.drop_zero, List.take_of_length_le (by omega)] at h0
  have hl := run_loadVar_mid (P := Tryd.prog) w b 0 T _ t h0 hu hd (by rw [hn, hcs])
  refine ⟨hdf, _, ?_, h⟩
  simp only [Array.getD_eq_getD_getElem?] at hx
  unfold results
  simp [hr, hx, hl, asAddr]
  try rfl
theorem ex_lenG {o : Oper} {a : Act} {w : World} {m : Operand} {A : Option Addr} {n c : Nat} (t e : TypeId) (ht : Tryd.prog.underlying t = some (.slice e)) (ho : o.op = .call { callee := .builtin .len, args := #[m], argTypes := #[t] }) (hm : a.eval m = .slice A n c) : (execOp a.eval o).run Tryd.prog w = .ok (.value (.int .i64 (n : Nat))) w := by
  simp [execOp, ho, resolve, invoke, builtin, hm, Builtin.len_, Result.andThen, goInt, ht, run_underlying ht]
theorem ex_eqYes {o : Oper} {a : Act} {w : World} {x y : Operand} {n m : Int} (ho : o.op = .binOp .eql 3 x y 3) (hx : a.eval x = .int .i64 n) (hc : a.eval y = .int .i64 m) (h : n = m) : (execOp a.eval o).run Tryd.prog w = .ok (.value (.bool true)) w := by
  unfold execOp
  simp only [ho, hx, hc]
  simp [go_sem, eqGuard, h]
theorem rangeAt_fr {w X : World} {b p : Nat} {cs : List Value} (h : w.rangeAt b p cs) (hb : b < w.heap.size) (hf : Fr w X []) : X.rangeAt b p cs := fun j v hv => by
  have e := h j v hv
  have h1 := hf.block b hb (by simp)
  unfold World.cell? at e ⊢
  dsimp only at e ⊢
  rw [h1]
  exact e
theorem ex_eqNo {o : Oper} {a : Act} {w : World} {x y : Operand} {n m : Int} (ho : o.op = .binOp .eql 3 x y 3) (hx : a.eval x = .int .i64 n) (hc : a.eval y = .int .i64 m) (h : n ≠ m) : (execOp a.eval o).run Tryd.prog w = .ok (.value (.bool false)) w := by
  unfold execOp
  simp only [ho, hx, hc]
  simp [go_sem, eqGuard, h]
theorem row25 : ∃ d, Tryd.prog.underlying 27 = some d ∧ d.isRow = true := ⟨_, Tryd.underlying27, rfl⟩
theorem siz25 : (Tryd.prog.info? 27).map (·.size) = some 5 := by kernel_rfl
theorem row44 : ∃ d, Tryd.prog.underlying 32 = some d ∧ d.isRow = true := ⟨_, Tryd.underlying32, rfl⟩
theorem siz44 : (Tryd.prog.info? 32).map (·.size) = some 18 := by kernel_rfl
theorem row41 : ∃ d, Tryd.prog.underlying 29 = some d ∧ d.isRow = true := ⟨_, Tryd.underlying29, rfl⟩
theorem siz41 : (Tryd.prog.info? 29).map (·.size) = some 2 := by kernel_rfl
theorem siz3 : (Tryd.prog.info? 3).map (·.size) = some 1 := by kernel_rfl
/-- A property: its key, and its descriptor. -/
structure PR where
  k : KK
  d : DD
def PR.cs (p : PR) : List Value := p.k.cs ++ p.d.cs
def PR.agg (p : PR) : Value := .agg p.cs.toArray
/-- A shape: class, prototype, extensible, properties. -/
structure SH where
  c : Int
  p : VV
  x : Bool
  ps : List PR
def SH.cs (s : SH) (A : Option Addr) (cap : Nat) : List Value := [.int .i64 s.c] ++ s.p.cs ++ [.bool s.x, .slice A s.ps.length cap]
def SH.agg (s : SH) (A : Option Addr) (cap : Nat) : Value := .agg (s.cs A cap).toArray
theorem pcs_length (p : PR) : p.cs.length = 20 := rfl
theorem shcs_length (p : SH) (A : Option Addr) (cap : Nat) : (p.cs A cap).length = 8 := rfl
theorem vagg (v : VV) : v.agg = .agg v.cs.toArray := rfl
theorem dagg (v : DD) : v.agg = .agg v.cs.toArray := rfl
theorem kagg (v : KK) : v.agg = .agg v.cs.toArray := rfl
theorem pcs_one (p : PR) : ∀ u ∈ p.cs, u.oneCell' = true := by simp [PR.cs, KK.cs, DD.cs, Value.oneCell']
theorem shcs_one (p : SH) (A : Option Addr) (cap : Nat) : ∀ u ∈ p.cs A cap, u.oneCell' = true := by simp [SH.cs, VV.cs, Value.oneCell']
theorem vcs_one (v : VV) : ∀ u ∈ v.cs, u.oneCell' = true := by simp [VV.cs, Value.oneCell']
def OkP (p : PR) : Prop := FD p.d ∧ OkK p.k
/-- A slice whose elements are these properties. -/
def ReadsP (w : World) (A : Option Addr) (l : List PR) : Prop := ∀ j p, l[j]? = some p → OkP p ∧ ∃ b off, A = some ⟨b, off, none⟩ ∧ b < w.heap.size ∧ w.rangeAt b (off + j * 20) p.cs
/-- A slice whose elements are these shapes. -/
def ReadsS (w : World) (A : Option Addr) (l : List SH) : Prop := ∀ j s, l[j]? = some s → s.p.x < 2 ^ 64 ∧ s.ps.length ≤ 733007751850 ∧ ∃ b off SA cap, A = some ⟨b, off, none⟩ ∧ b < w.heap.size ∧ ReadsP w SA s.ps ∧ w.rangeAt b (off + j * 8) (s.cs SA cap)
theorem ReadsP.fr {w X : World} {A : Option Addr} {l : List PR} (h : ReadsP w A l) (hf : Fr w X []) : ReadsP X A l := fun j p hp => by
  obtain ⟨h1, b, off, h2, h3, h4⟩ := h j p hp
  exact ⟨h1, b, off, h2, Nat.lt_of_lt_of_le h3 hf.size, rangeAt_fr h4 h3 hf⟩
theorem ReadsS.fr {w X : World} {A : Option Addr} {l : List SH} (h : ReadsS w A l) (hf : Fr w X []) : ReadsS X A l := fun j p hp => by
  obtain ⟨h1, h6, b, off, SA, cap, h2, h3, h5, h4⟩ := h j p hp
  exact ⟨h1, h6, b, off, SA, cap, h2, Nat.lt_of_lt_of_le h3 hf.size, h5.fr hf, rangeAt_fr h4 h3 hf⟩
end Go.Proofs.YteohiamifoonkaaDoor
