import Derived.Test.YtcflglloopgieaaGreatDoorQj

/-! Ia -/
namespace Go.Proofs.YtcflglloopgieaaGreatDoor
open Go Go.Proofs Go.Maps Go.RowKit FM
set_option linter.unusedSimpArgs false
set_option linter.unusedVariables false
set_option maxHeartbeats 1000000
theorem rwV : ∃ d, Tryz.prog.underlying 31 = some d ∧ d.isRow = true := ⟨_, Tryz.underlying31, rfl⟩
theorem szV : (Tryz.prog.info? 31).map (·.size) = some 5 := by kernel_rfl
theorem rwS : ∃ d, Tryz.prog.underlying 34 = some d ∧ d.isRow = true := ⟨_, Tryz.underlying34, rfl⟩
theorem szS : (Tryz.prog.info? 34).map (·.size) = some 8 := by kernel_rfl
theorem rwD : ∃ d, Tryz.prog.underlying 59 = some d ∧ d.isRow = true := ⟨_, Tryz.underlying59, rfl⟩
theorem szD : (Tryz.prog.info? 59).map (·.size) = some 18 := by kernel_rfl
theorem rwP : ∃ d, Tryz.prog.underlying 61 = some d ∧ d.isRow = true := ⟨_, Tryz.underlying61, rfl⟩
theorem szP : (Tryz.prog.info? 61).map (·.size) = some 20 := by kernel_rfl
theorem rwK : ∃ d, Tryz.prog.underlying 56 = some d ∧ d.isRow = true := ⟨_, Tryz.underlying56, rfl⟩
theorem szK : (Tryz.prog.info? 56).map (·.size) = some 2 := by kernel_rfl
theorem rwC : ∃ d, Tryz.prog.underlying 46 = some d ∧ d.isRow = true := ⟨_, Tryz.underlying46, rfl⟩
theorem szC : (Tryz.prog.info? 46).map (·.size) = some 17 := by kernel_rfl
theorem rwR : ∃ d, Tryz.prog.underlying 50 = some d ∧ d.isRow = true := ⟨_, Tryz.underlying50, rfl⟩
theorem szR : (Tryz.prog.info? 50).map (·.size) = some 2 := by kernel_rfl
theorem rwL : ∃ d, Tryz.prog.underlying 65 = some d ∧ d.isRow = true := ⟨_, Tryz.underlying65, rfl⟩
theorem szL : (Tryz.prog.info? 65).map (·.size) = some 29 := by kernel_rfl
theorem szI : (Tryz.prog.info? 3).map (·.size) = some 1 := by kernel_rfl
theorem szB : (Tryz.prog.info? 4).map (·.size) = some 1 := by kernel_rfl
theorem szPs : (Tryz.prog.info? 32).map (·.size) = some 1 := by kernel_rfl
theorem szM : (Tryz.prog.info? 85).map (·.size) = some 1 := by kernel_rfl
theorem szLs : (Tryz.prog.info? 36).map (·.size) = some 1 := by kernel_rfl
theorem idPs (w : World) : (sizeOf (Tryz.prog.elem 32)).run Tryz.prog w = .ok 20 w := by kernel_rfl
theorem unPs : Tryz.prog.underlying 32 = some (.slice (Tryz.prog.elem 32)) := by kernel_rfl
theorem idSs (w : World) : (sizeOf (Tryz.prog.elem 22)).run Tryz.prog w = .ok 8 w := by kernel_rfl
theorem unSs : Tryz.prog.underlying 22 = some (.slice (Tryz.prog.elem 22)) := by kernel_rfl
theorem idLs (w : World) : (sizeOf (Tryz.prog.elem 36)).run Tryz.prog w = .ok 29 w := by kernel_rfl
theorem unLs : Tryz.prog.underlying 36 = some (.slice (Tryz.prog.elem 36)) := by kernel_rfl
theorem idRs (w : World) : (sizeOf (Tryz.prog.elem 43)).run Tryz.prog w = .ok 2 w := by kernel_rfl
theorem unRs : Tryz.prog.underlying 43 = some (.slice (Tryz.prog.elem 43)) := by kernel_rfl

/-! A map from keys to numbers. -/
def inR : Value → Option (DataW Unit × List MemPlace)
  | .int .i64 n => some (.lit (.int .i64 n), [])
  | _ => none
theorem inR_inv {v : Value} {n : Int} {ps : List MemPlace} (h : inR v = some (.lit (.int .i64 n), ps)) : v = .int .i64 n := by
  unfold inR at h
  split at h
  · have e := congrArg Prod.fst (Option.some.inj h)
    simp at e
    rw [e]
  · cases h
def nz : Option Nat → Int
  | none => 0
  | some n => (n : Int)
def MapI (w : World) (b n sz : Nat) (F : KK → Option Nat) : Prop :=
  ∃ D : DataW Unit, w.ownsMap Tryz.prog 56 inR b n D ∧ Maps.size D = sz ∧ ∀ k, OkK k → D.atKey (kl k) (.lit (.int .i64 0)) = .lit (.int .i64 (nz (F k))) ∧ Maps.has D (kl k) = (F k).isSome
theorem MapI.made (w : World) : MapI (w.alloc (.map #[] 0)) w.heap.size 0 0 (fun _ => none) :=
  ⟨_, World.ownsMap_made w _ _ _, rfl, fun k _ => ⟨rfl, rfl⟩⟩
theorem MapI.lt {w : World} {b n sz : Nat} {F : KK → Option Nat} (h : MapI w b n sz F) : b < w.heap.size := by
  obtain ⟨D, h, -⟩ := h
  exact h.lt
theorem MapI.block {w w' : World} {b n sz : Nat} {F : KK → Option Nat} (h : MapI w b n sz F) (he : w'.heap[b]? = w.heap[b]?) : MapI w' b n sz F := by
  obtain ⟨D, ⟨es, clock, hb, Ft, hs, hD⟩, h2, h3⟩ := h
  exact ⟨D, ⟨es, clock, he.trans hb, Ft, hs, hD⟩, h2, h3⟩
theorem MapI.on {w w' : World} {b n sz : Nat} {F : KK → Option Nat} (h : MapI w b n sz F) (he : Below w.heap.size w w') : MapI w' b n sz F := h.block (he.block b h.lt)
theorem MapI.far {w w' : World} {b n sz g : Nat} {F : KK → Option Nat} (h : MapI w b n sz F) (he : Fr w w' [g]) (hg : b ≠ g) : MapI w' b n sz F := h.block (he.block b h.lt (by simpa using hg))
theorem MapI.congr {w : World} {b n sz sz' : Nat} {F G : KK → Option Nat} (h : MapI w b n sz F) (hs : sz = sz') (hK : ∀ k, F k = G k) : MapI w b n sz' G := by
  obtain ⟨D, h1, h2, h3⟩ := h
  exact ⟨D, h1, h2.trans hs, fun k hk => by rw [← hK k]; exact h3 k hk⟩
theorem zeroI (w : World) : (zeroValue 3).run Tryz.prog w = .ok (.int .i64 0) w := by kernel_rfl
theorem MapI.look {w : World} {b n sz : Nat} {F : KK → Option Nat} (h : MapI w b n sz F) {k : KK} (hk : OkK k) :
    (Instr.lookup 85 (.map (some b)) k.agg true).run Tryz.prog w = .ok (.tuple #[.int .i64 (nz (F k)), .bool (F k).isSome]) w := by
  obtain ⟨D, h, h2, h3⟩ := h
  obtain ⟨v, ps, hrun, hv⟩ := h.look_ok law41 Tryz.underlying85 (zeroI w) (show inR (.int .i64 0) = some (.lit (.int .i64 0), []) from rfl) (keyOfK hk)
  obtain ⟨h4, h5⟩ := h3 k hk
  have hv' : inR v = some (.lit (.int .i64 (nz (F k))), ps) := by rw [← h4]; exact hv
  rw [hrun, h5, inR_inv hv']
theorem MapI.look1 {w : World} {b n sz : Nat} {F : KK → Option Nat} (h : MapI w b n sz F) {k : KK} (hk : OkK k) :
    (Instr.lookup 85 (.map (some b)) k.agg false).run Tryz.prog w = .ok (.int .i64 (nz (F k))) w := by
  obtain ⟨D, h, h2, h3⟩ := h
  obtain ⟨v, ps, hrun, hv⟩ := h.lookup law41 Tryz.underlying85 (zeroI w) (show inR (.int .i64 0) = some (.lit (.int .i64 0), []) from rfl) (keyOfK hk)
  obtain ⟨h4, h5⟩ := h3 k hk
  have hv' : inR v = some (.lit (.int .i64 (nz (F k))), ps) := by rw [← h4]; exact hv
  rw [hrun, inR_inv hv']
theorem MapI.len {w : World} {b n sz : Nat} {F : KK → Option Nat} (h : MapI w b n sz F) (ty : TypeId) : (Builtin.len_ #[85] ty #[.map (some b)]).run Tryz.prog w = .ok (.int .i64 sz) w := by
  obtain ⟨D, h, h2, h3⟩ := h
  rw [h.len Tryz.underlying85 ty, h2]
def putF (F : KK → Option Nat) (k : KK) (r : Nat) : KK → Option Nat := fun q => if q = k then some r else F q
theorem MapI.store {w : World} {b n sz : Nat} {F : KK → Option Nat} (h : MapI w b n sz F) {k : KK} (hk : OkK k) (hn : n < maxLen) (r : Nat) :
    ∃ w', (Instr.mapUpdate 85 (.map (some b)) k.agg (.int .i64 (r : Nat))).run Tryz.prog w = .ok () w' ∧ MapI w' b (n + 1) (if (F k).isSome then sz else sz + 1) (putF F k r) ∧ w.mapTurned w' b := by
  obtain ⟨D, h, h2, h3⟩ := h
  obtain ⟨w', hrun, ho, ht⟩ := h.store law41 Tryz.underlying85 hn (keyOfK hk) (show inR (.int .i64 (r : Nat)) = some (.lit (.int .i64 (r : Nat)), []) from rfl)
  have ti := h.tidy law41
  refine ⟨w', hrun, ⟨_, ho, ?_, fun q hq => ?_⟩, ht⟩
  · rw [size_put ti, (h3 k hk).2, h2]
  · by_cases e : q = k
    · subst e
      rw [atKey_put_same ti.isMap (kl_key hk), has_put_same ti.isMap (kl_key hk), putF, if_pos rfl]
      exact ⟨rfl, rfl⟩
    · have ne : kl q ≠ kl k := fun e' => e (kl_inj hq hk e')
      rw [atKey_put_other ne, has_put_other ne, putF, if_neg e]
      exact h3 q hq
section
variable {ops : Array Oper} {rest : List Oper} {Q : Exit → Act → World → Prop} {w w0 : World} {a : Act} {o : Oper} {E : List Nat} {L : List (Nat × List Value)}
theorem mmI {x : Operand} {n : Int} (hw : Region.wanted o (yielded ops a.tmps) = true) (ho : o.op = .makeMap 85 (some x)) (hx : a.eval x = .int .i64 n) (hL : Hq w0 w E L)
    (h : ∀ X B, B = w.heap.size → Hq w0 X E L → MapI X B 0 0 (fun _ => none) → Below w.heap.size w X → wpList Tryz.prog ops Q rest (a.put o.dst (.map (some B))) X) : wpList Tryz.prog ops Q (o :: rest) a w := by
  refine BigFrame.wpList_want hw fun K hK => ?_
  have bl : Below w.heap.size w (w.alloc (Obj.map #[] 0)) := (Below.refl _ _).alloc (Nat.le_refl _) _
  have hP := hK _ _ (h _ _ rfl (hL.on bl) (MapI.made w) bl)
  have e : (Instr.makeMap 85 (some (.int .i64 n))).run Tryz.prog w = .ok (.map (some w.heap.size)) (w.alloc (.map #[] 0)) := by
    simp [Instr.makeMap, run_underlying Tryz.underlying85, asInt, asIntOf, Result.andThen]
  unfold Oper.wp execOp
  simp only [ho, Option.map_some, hx]
  simp [e]
  exact hP
theorem updI {m x y : Operand} {b n sz r : Nat} {F : KK → Option Nat} {k : KK} (hw : Region.wanted o (yielded ops a.tmps) = true) (ho : o.op = .mapUpdate 85 m x y) (hm : a.eval m = .map (some b)) (hx : a.eval x = k.agg) (hy : a.eval y = .int .i64 (r : Nat)) (h : MapI w b n sz F) (hk : OkK k) (hn : n < maxLen)
    (hh : ∀ X, MapI X b (n + 1) (if (F k).isSome then sz else sz + 1) (putF F k r) → Fr w X [b] → wpList Tryz.prog ops Q rest (a.put o.dst undef) X) : wpList Tryz.prog ops Q (o :: rest) a w := by
  obtain ⟨X, h1, h2, h3⟩ := h.store hk hn r
  refine BigFrame.wpList_want hw fun K hK => ?_
  have hP := hK _ _ (hh X h2 (Fr.grown h3.grown))
  unfold Oper.wp
  have e : (execOp a.eval o).run Tryz.prog w = .ok .skip X := by
    unfold execOp
    simp only [ho, hm, hx, hy]
    simp [h1]
  rw [e]
  exact hP
theorem ex_lookI {m x : Operand} {b n sz : Nat} {F : KK → Option Nat} {k : KK} {r : Option Nat} (ho : o.op = .lookup 85 m x true) (hm : a.eval m = .map (some b)) (hx : a.eval x = k.agg) (h : MapI w b n sz F) (hk : OkK k) (hr : F k = r) : (execOp a.eval o).run Tryz.prog w = .ok (.value (.tuple #[.int .i64 (nz r), .bool r.isSome])) w := by
  subst hr
  unfold execOp
  simp only [ho, hm, hx]
  simp [h.look hk]
theorem ex_look1 {m x : Operand} {b n sz : Nat} {F : KK → Option Nat} {k : KK} {r : Option Nat} (ho : o.op = .lookup 85 m x false) (hm : a.eval m = .map (some b)) (hx : a.eval x = k.agg) (h : MapI w b n sz F) (hk : OkK k) (hr : F k = r) : (execOp a.eval o).run Tryz.prog w = .ok (.value (.int .i64 (nz r))) w := by
  subst hr
  unfold execOp
  simp only [ho, hm, hx]
  simp [h.look1 hk]
theorem ex_lenI {m : Operand} {b n sz : Nat} {F : KK → Option Nat} (ho : o.op = .call { callee := .builtin .len, args := #[m], argTypes := #[85] }) (hm : a.eval m = .map (some b)) (h : MapI w b n sz F) : (execOp a.eval o).run Tryz.prog w = .ok (.value (.int .i64 (sz : Nat))) w := by
  have e := h.len o.type
  simp [execOp, ho, resolve, invoke, builtin, hm, e, Result.andThen]
end
/-- An object at two moments. -/
structure CO where
  was : SH
  wA : Option Addr
  wc : Nat
  is : SH
  iA : Option Addr
  ic : Nat
  gone : Bool
def CO.cs (c : CO) : List Value := c.was.cs c.wA c.wc ++ c.is.cs c.iA c.ic ++ [.bool c.gone]
def CO.agg (c : CO) : Value := .agg c.cs.toArray
theorem cocs_one (c : CO) : ∀ u ∈ c.cs, u.oneCell' = true := by simp [CO.cs, SH.cs, VV.cs, Value.oneCell']
/-- One thing that is another one. -/
structure DL where
  o : Int
  wh : Int
  n : Int
  y : Bool
  v : VV
  k : KK
  d : DD
def DL.cs (c : DL) : List Value := [.int .i64 c.o, .int .i64 c.wh, .int .i64 c.n, .bool c.y] ++ c.v.cs ++ c.k.cs ++ c.d.cs
def DL.agg (c : DL) : Value := .agg c.cs.toArray
theorem dlcs_one (c : DL) : ∀ u ∈ c.cs, u.oneCell' = true := by simp [DL.cs, KK.cs, DD.cs, VV.cs, Value.oneCell']
theorem pagg (p : PR) : p.agg = .agg p.cs.toArray := rfl
theorem sagg (p : SH) (A : Option Addr) (c : Nat) : p.agg A c = .agg (p.cs A c).toArray := rfl
end Go.Proofs.YtcflglloopgieaaGreatDoor
