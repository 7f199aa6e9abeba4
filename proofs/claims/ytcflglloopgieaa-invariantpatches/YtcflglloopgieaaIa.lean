import Derived.Test.YtcflglloopgieaaPa
namespace Go.Proofs.Ytcflglloopgieaa
open Go Go.Proofs Go.Maps Go.RowKit FM
set_option linter.unusedSimpArgs false
set_option linter.unusedVariables false
set_option maxHeartbeats 1000000
theorem rwV : ∃ d, Try.prog.underlying 28 = some d ∧ d.isRow = true := ⟨_, Try.underlying28, rfl⟩
theorem szV : (Try.prog.info? 28).map (·.size) = some 5 := by kernel_rfl
theorem rwS : ∃ d, Try.prog.underlying 48 = some d ∧ d.isRow = true := ⟨_, Try.underlying48, rfl⟩
theorem szS : (Try.prog.info? 48).map (·.size) = some 8 := by kernel_rfl
theorem rwD : ∃ d, Try.prog.underlying 33 = some d ∧ d.isRow = true := ⟨_, Try.underlying33, rfl⟩
theorem szD : (Try.prog.info? 33).map (·.size) = some 18 := by kernel_rfl
theorem rwP : ∃ d, Try.prog.underlying 56 = some d ∧ d.isRow = true := ⟨_, Try.underlying56, rfl⟩
theorem szP : (Try.prog.info? 56).map (·.size) = some 20 := by kernel_rfl
theorem rwK : ∃ d, Try.prog.underlying 30 = some d ∧ d.isRow = true := ⟨_, Try.underlying30, rfl⟩
theorem szK : (Try.prog.info? 30).map (·.size) = some 2 := by kernel_rfl
theorem rwL : ∃ d, Try.prog.underlying 35 = some d ∧ d.isRow = true := ⟨_, Try.underlying35, rfl⟩
theorem szL : (Try.prog.info? 35).map (·.size) = some 29 := by kernel_rfl
theorem szI : (Try.prog.info? 3).map (·.size) = some 1 := by kernel_rfl
theorem szB : (Try.prog.info? 4).map (·.size) = some 1 := by kernel_rfl
theorem szPs : (Try.prog.info? 46).map (·.size) = some 1 := by kernel_rfl
theorem szM : (Try.prog.info? 62).map (·.size) = some 1 := by kernel_rfl
theorem idPs (w : World) : (sizeOf (Try.prog.elem 46)).run Try.prog w = .ok 20 w := by kernel_rfl
theorem unPs : Try.prog.underlying 46 = some (.slice (Try.prog.elem 46)) := by kernel_rfl
theorem idSs (w : World) : (sizeOf (Try.prog.elem 22)).run Try.prog w = .ok 8 w := by kernel_rfl
theorem unSs : Try.prog.underlying 22 = some (.slice (Try.prog.elem 22)) := by kernel_rfl
theorem idLs (w : World) : (sizeOf (Try.prog.elem 23)).run Try.prog w = .ok 29 w := by kernel_rfl
theorem unLs : Try.prog.underlying 23 = some (.slice (Try.prog.elem 23)) := by kernel_rfl
/-! A map from keys to numbers. -/
def inR : Value → Option (DataW Unit × List MemPlace)
  | .int .i64 n => some (.lit (.int .i64 n), [])
  | _ => none
theorem inR_inv {v : Value} {n : Int} {ps : List MemPlace} (h : inR v = some (.lit (.int .i64 n), ps)) : v = .int .i64 n := by
  unfold inR at h
  split at h
  · have e := congrArg Prod.fst (Option.some.inj h)
    simp at e
    rw [e]
  · cases h
def nz : Option Nat → Int
  | none => 0
  | some n => (n : Int)
def MapI (w : World) (b n sz : Nat) (F : KK → Option Nat) : Prop :=
  ∃ D : DataW Unit, w.ownsMap Try.prog 30 inR b n D ∧ Maps.size D = sz ∧ ∀ k, OkK k → D.atKey (kl k) (.lit (.int .i64 0)) = .lit (.int .i64 (nz (F k))) ∧ Maps.has D (kl k) = (F k).isSome
theorem MapI.made (w : World) : MapI (w.alloc (.map #[] 0)) w.heap.size 0 0 (fun _ => none) :=
  ⟨_, World.ownsMap_made w _ _ _, rfl, fun k _ => ⟨rfl, rfl⟩⟩
theorem MapI.lt {w : World} {b n sz : Nat} {F : KK → Option Nat} (h : MapI w b n sz F) : b < w.heap.size := by
  obtain ⟨D, h, -⟩ := h
  exact h.lt
theorem MapI.block {w w' : World} {b n sz : Nat} {F : KK → Option Nat} (h : MapI w b n sz F) (he : w'.heap[b]? = w.heap[b]?) : MapI w' b n sz F := by
  obtain ⟨D, ⟨es, clock, hb, Ft, hs, hD⟩, h2, h3⟩ := h
  exact ⟨D, ⟨es, clock, he.trans hb, Ft, hs, hD⟩, h2, h3⟩
theorem zeroI (w : World) : (zeroValue 3).run Try.prog w = .ok (.int .i64 0) w := by kernel_rfl
theorem MapI.look1 {w : World} {b n sz : Nat} {F : KK → Option Nat} (h : MapI w b n sz F) {k : KK} (hk : OkK k) :
    (Instr.lookup 62 (.map (some b)) k.agg false).run Try.prog w = .ok (.int .i64 (nz (F k))) w := by
  obtain ⟨D, h, h2, h3⟩ := h
  obtain ⟨v, ps, hrun, hv⟩ := h.lookup law41 Try.underlying62 (zeroI w) (show inR (.int .i64 0) = some (.lit (.int .i64 0), []) from rfl) (keyOfK hk)
  obtain ⟨h4, h5⟩ := h3 k hk
  have hv' : inR v = some (.lit (.int .i64 (nz (F k))), ps) := by rw [← h4]; exact hv
  rw [hrun, inR_inv hv']
def putF (F : KK → Option Nat) (k : KK) (r : Nat) : KK → Option Nat := fun q => if q = k then some r else F q
theorem MapI.store {w : World} {b n sz : Nat} {F : KK → Option Nat} (h : MapI w b n sz F) {k : KK} (hk : OkK k) (hn : n < maxLen) (r : Nat) :
    ∃ w', (Instr.mapUpdate 62 (.map (some b)) k.agg (.int .i64 (r : Nat))).run Try.prog w = .ok () w' ∧ MapI w' b (n + 1) (if (F k).isSome then sz else sz + 1) (putF F k r) ∧ w.mapTurned w' b := by
  obtain ⟨D, h, h2, h3⟩ := h
  obtain ⟨w', hrun, ho, ht⟩ := h.store law41 Try.underlying62 hn (keyOfK hk) (show inR (.int .i64 (r : Nat)) = some (.lit (.int .i64 (r : Nat)), []) from rfl)
  have ti := h.tidy law41
  refine ⟨w', hrun, ⟨_, ho, ?_, fun q hq => ?_⟩, ht⟩
  · rw [size_put ti, (h3 k hk).2, h2]
  · by_cases e : q = k
    · subst e
      rw [atKey_put_same ti.isMap (kl_key hk), has_put_same ti.isMap (kl_key hk), putF, if_pos rfl]
      exact ⟨rfl, rfl⟩
    · have ne : kl q ≠ kl k := fun e' => e (kl_inj hq hk e')
      rw [atKey_put_other ne, has_put_other ne, putF, if_neg e]
      exact h3 q hq
section
variable {ops : Array Oper} {rest : List Oper} {Q : Exit → Act → World → Prop} {w w0 : World} {a : Act} {o : Oper} {E : List Nat} {L : List (Nat × List Value)}
theorem mmI {x : Operand} {n : Int} (hw : Region.wanted o (yielded ops a.tmps) = true) (ho : o.op = .makeMap 62 (some x)) (hx : a.eval x = .int .i64 n) (hL : Hq w0 w E L)
    (h : ∀ X B, B = w.heap.size → Hq w0 X E L → MapI X B 0 0 (fun _ => none) → Below w.heap.size w X → wpList Try.prog ops Q rest (a.put o.dst (.map (some B))) X) : wpList Try.prog ops Q (o :: rest) a w := by
  refine BigFrame.wpList_want hw fun K hK => ?_
  have bl : Below w.heap.size w (w.alloc (Obj.map #[] 0)) := (Below.refl _ _).alloc (Nat.le_refl _) _
  have hP := hK _ _ (h _ _ rfl (hL.on bl) (MapI.made w) bl)
  have e : (Instr.makeMap 62 (some (.int .i64 n))).run Try.prog w = .ok (.map (some w.heap.size)) (w.alloc (.map #[] 0)) := by
    simp [Instr.makeMap, run_underlying Try.underlying62, asInt, asIntOf, Result.andThen]
  unfold Oper.wp execOp
  simp only [ho, Option.map_some, hx]
  simp [e]
  exact hP
theorem ex_look1 {m x : Operand} {b n sz : Nat} {F : KK → Option Nat} {k : KK} {r : Option Nat} (ho : o.op = .lookup 62 m x false) (hm : a.eval m = .map (some b)) (hx : a.eval x = k.agg) (h : MapI w b n sz F) (hk : OkK k) (hr : F k = r) : (execOp a.eval o).run Try.prog w = .ok (.value (.int .i64 (nz r))) w := by
  subst hr
  unfold execOp
  simp only [ho, hm, hx]
  simp [h.look1 hk]
end
/-- An object at two moments. -/
structure CO where
  was : SH
  wA : Option Addr
  wc : Nat
  is : SH
  iA : Option Addr
  ic : Nat
  gone : Bool
def CO.cs (c : CO) : List Value := c.was.cs c.wA c.wc ++ c.is.cs c.iA c.ic ++ [.bool c.gone]
/-- One thing that is another one. -/
structure DL where
  o : Int
  wh : Int
  n : Int
  y : Bool
  v : VV
  k : KK
  d : DD
def DL.cs (c : DL) : List Value := [.int .i64 c.o, .int .i64 c.wh, .int .i64 c.n, .bool c.y] ++ c.v.cs ++ c.k.cs ++ c.d.cs
def DL.agg (c : DL) : Value := .agg c.cs.toArray
theorem dlcs_one (c : DL) : ∀ u ∈ c.cs, u.oneCell' = true := by simp [DL.cs, KK.cs, DD.cs, VV.cs, Value.oneCell']
end Go.Proofs.Ytcflglloopgieaa
