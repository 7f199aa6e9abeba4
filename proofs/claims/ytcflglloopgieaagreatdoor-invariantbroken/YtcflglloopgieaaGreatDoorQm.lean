import Derived.Test.YtcflglloopgieaaGreatDoorQl

/-! Ia -/
namespace Go.Proofs.YtcflglloopgieaaGreatDoor
open Go Go.Proofs Go.Maps Go.RowKit FM
set_option linter.unusedSimpArgs false
set_option linter.unusedVariables false
set_option maxHeartbeats 1000000
theorem rwV : ∃ d, Tryz.prog.underlying 31 = some d ∧ d.isRow = true := ⟨_, Tryz.underlying31, rfl⟩
theorem szV : (Tryz.prog.info? 31).map (·.size) = some 5 := by kernel_rfl
theorem rwS : ∃ d, Tryz.prog.underlying 34 = some d ∧ d.isRow = true := ⟨_, Tryz.underlying34, rfl⟩
theorem szS : (Tryz.prog.info? 34).map (·.size) = some 8 := by kernel_rfl
theorem rwD : ∃ d, Tryz.prog.underlying 59 = some d ∧ d.isRow = true := ⟨_, Tryz.underlying59, rfl⟩
theorem szD : (Tryz.prog.info? 59).map (·.size) = some 18 := by kernel_rfl
theorem rwP : ∃ d, Tryz.prog.underlying 61 = some d ∧ d.isRow = true := ⟨_, Tryz.underlying61, rfl⟩
theorem szP : (Tryz.prog.info? 61).map (·.size) = some 20 := by kernel_rfl
theorem rwK : ∃ d, Tryz.prog.underlying 56 = some d ∧ d.isRow = true := ⟨_, Tryz.underlying56, rfl⟩
theorem szK : (Tryz.prog.info? 56).map (·.size) = some 2 := by kernel_rfl
theorem rwC : ∃ d, Tryz.prog.underlying 46 = some d ∧ d.isRow = true := ⟨_, Tryz.underlying46, rfl⟩
theorem szC : (Tryz.prog.info? 46).map (·.size) = some 17 := by kernel_rfl
theorem rwR : ∃ d, Tryz.prog.underlying 50 = some d ∧ d.isRow = true := ⟨_, Tryz.underlying50, rfl⟩
theorem szR : (Tryz.prog.info? 50).map (·.size) = some 2 := by kernel_rfl
theorem rwL : ∃ d, Tryz.prog.underlying 65 = some d ∧ d.isRow = true := ⟨_, Tryz.underlying65, rfl⟩
theorem szL : (Tryz.prog.info? 65).map (·.size) = some 29 := by kernel_rfl
theorem rwT : ∃ d, Tryz.prog.underlying 68 = some d ∧ d.isRow = true := ⟨_, Tryz.underlying68, rfl⟩
theorem szT : (Tryz.prog.info? 68).map (·.size) = some 2 := by kernel_rfl
theorem szI : (Tryz.prog.info? 3).map (·.size) = some 1 := by kernel_rfl
theorem szB : (Tryz.prog.info? 4).map (·.size) = some 1 := by kernel_rfl
theorem szPs : (Tryz.prog.info? 32).map (·.size) = some 1 := by kernel_rfl
theorem szSs : (Tryz.prog.info? 22).map (·.size) = some 1 := by kernel_rfl
theorem szM : (Tryz.prog.info? 85).map (·.size) = some 1 := by kernel_rfl
theorem szLs : (Tryz.prog.info? 36).map (·.size) = some 1 := by kernel_rfl
theorem szTr : (Tryz.prog.info? 57).map (·.size) = some 1 := by kernel_rfl
theorem idPs (w : World) : (sizeOf (Tryz.prog.elem 32)).run Tryz.prog w = .ok 20 w := by kernel_rfl
theorem unPs : Tryz.prog.underlying 32 = some (.slice (Tryz.prog.elem 32)) := by kernel_rfl
theorem idSs (w : World) : (sizeOf (Tryz.prog.elem 22)).run Tryz.prog w = .ok 8 w := by kernel_rfl
theorem unSs : Tryz.prog.underlying 22 = some (.slice (Tryz.prog.elem 22)) := by kernel_rfl
theorem idLs (w : World) : (sizeOf (Tryz.prog.elem 36)).run Tryz.prog w = .ok 29 w := by kernel_rfl
theorem unLs : Tryz.prog.underlying 36 = some (.slice (Tryz.prog.elem 36)) := by kernel_rfl
theorem idRs (w : World) : (sizeOf (Tryz.prog.elem 43)).run Tryz.prog w = .ok 2 w := by kernel_rfl
theorem unRs : Tryz.prog.underlying 43 = some (.slice (Tryz.prog.elem 43)) := by kernel_rfl

/-! A map from keys to numbers. -/
def inR : Value → Option (DataW Unit × List MemPlace)
  | .int .i64 n => some (.lit (.int .i64 n), [])
  | _ => none
theorem inR_inv {v : Value} {n : Int} {ps : List MemPlace} (h : inR v = some (.lit (.int .i64 n), ps)) : v = .int .i64 n := by
  unfold inR at h
  split at h
  · have e := congrArg Prod.fst (Option.some.inj h)
    simp at e
    rw [e]
  · cases h
def nz : Option Nat → Int
  | none => 0
  | some n => (n : Int)
def MapI (w : World) (b n sz : Nat) (F : KK → Option Nat) : Prop :=
  ∃ D : DataW Unit, w.ownsMap Tryz.prog 56 inR b n D ∧ Maps.size D = sz ∧ ∀ k, OkK k → D.atKey (kl k) (.lit (.int .i64 0)) = .lit (.int .i64 (nz (F k))) ∧ Maps.has D (kl k) = (F k).isSome
theorem MapI.made (w : World) : MapI (w.alloc (.map #[] 0)) w.heap.size 0 0 (fun _ => none) :=
  ⟨_, World.ownsMap_made w _ _ _, rfl, fun k _ => ⟨rfl, rfl⟩⟩
theorem MapI.lt {w : World} {b n sz : Nat} {F : KK → Option Nat} (h : MapI w b n sz F) : b < w.heap.size := by
  obtain ⟨D, h, -⟩ := h
  exact h.lt
theorem MapI.block {w w' : World} {b n sz : Nat} {F : KK → Option Nat} (h : MapI w b n sz F) (he : w'.heap[b]? = w.heap[b]?) : MapI w' b n sz F := by
  obtain ⟨D, ⟨es, clock, hb, Ft, hs, hD⟩, h2, h3⟩ := h
  exact ⟨D, ⟨es, clock, he.trans hb, Ft, hs, hD⟩, h2, h3⟩
theorem MapI.on {w w' : World} {b n sz : Nat} {F : KK → Option Nat} (h : MapI w b n sz F) (he : Below w.heap.size w w') : MapI w' b n sz F := h.block (he.block b h.lt)
theorem MapI.far {w w' : World} {b n sz g : Nat} {F : KK → Option Nat} (h : MapI w b n sz F) (he : Fr w w' [g]) (hg : b ≠ g) : MapI w' b n sz F := h.block (he.block b h.lt (by simpa using hg))
theorem MapI.congr {w : World} {b n sz sz' : Nat} {F G : KK → Option Nat} (h : MapI w b n sz F) (hs : sz = sz') (hK : ∀ k, F k = G k) : MapI w b n sz' G := by
  obtain ⟨D, h1, h2, h3⟩ := h
  exact ⟨D, h1, h2.trans hs, fun k hk => by rw [← hK k]; exact h3 k hk⟩
theorem zeroI (w : World) : (zeroValue 3).run Tryz.prog w = .ok (.int .i64 0) w := by kernel_rfl
theorem MapI.look {w : World} {b n sz : Nat} {F : KK → Option Nat} (h : MapI w b n sz F) {k : KK} (hk : OkK k) :
    (Instr.lookup 85 (.map (some b)) k.agg true).run Tryz.prog w = .ok (.tuple #[.int .i64 (nz (F k)), .bool (F k).isSome]) w := by
  obtain ⟨D, h, h2, h3⟩ := h
  obtain ⟨v, ps, hrun, hv⟩ := h.look_ok law41 Tryz.underlying85 (zeroI w) (show inR (.int .i64 0) = some (.lit (.int .i64 0), []) from rfl) (keyOfK hk)
  obtain ⟨h4, h5⟩ := h3 k hk
  have hv' : inR v = some (.lit (.int .i64 (nz (F k))), ps) := by rw [← h4]; exact hv
  rw [hrun, h5, inR_inv hv']
theorem MapI.look1 {w : World} {b n sz : Nat} {F : KK → Option Nat} (h : MapI w b n sz F) {k : KK} (hk : OkK k) :
    (Instr.lookup 85 (.map (some b)) k.agg false).run Tryz.prog w = .ok (.int .i64 (nz (F k))) w := by
  obtain ⟨D, h, h2, h3⟩ := h
  obtain ⟨v, ps, hrun, hv⟩ := h.lookup law41 Tryz.underlying85 (zeroI w) (show inR (.int .i64 0) = some (.lit (.int .i64 0), []) from rfl) (keyOfK hk)
  obtain ⟨h4, h5⟩ := h3 k hk
  have hv' : inR v = some (.lit (.int .i64 (nz (F k))), ps) := by rw [← h4]; exact hv
  rw [hrun, inR_inv hv']
theorem MapI.len {w : World} {b n sz : Nat} {F : KK → Option Nat} (h : MapI w b n sz F) (ty : TypeId) : (Builtin.len_ #[85] ty #[.map (some b)]).run Tryz.prog w = .ok (.int .i64 sz) w := by
  obtain ⟨D, h, h2, h3⟩ := h
  rw [h.len Tryz.underlying85 ty, h2]
def putF (F : KK → Option Nat) (k : KK) (r : Nat) : KK → Option Nat := fun q => if q = k then some r else F q
theorem MapI.store {w : World} {b n sz : Nat} {F : KK → Option Nat} (h : MapI w b n sz F) {k : KK} (hk : OkK k) (hn : n < maxLen) (r : Nat) :
    ∃ w', (Instr.mapUpdate 85 (.map (some b)) k.agg (.int .i64 (r : Nat))).run Tryz.prog w = .ok () w' ∧ MapI w' b (n + 1) (if (F k).isSome then sz else sz + 1) (putF F k r) ∧ w.mapTurned w' b := by
  obtain ⟨D, h, h2, h3⟩ := h
  obtain ⟨w', hrun, ho, ht⟩ := h.store law41 Tryz.underlying85 hn (keyOfK hk) (show inR (.int .i64 (r : Nat)) = some (.lit (.int .i64 (r : Nat)), []) from rfl)
  have ti := h.tidy law41
  refine ⟨w', hrun, ⟨_, ho, ?_, fun q hq => ?_⟩, ht⟩
  · rw [size_put ti, (h3 k hk).2, h2]
  · by_cases e : q = k
    · subst e
      rw [atKey_put_same ti.isMap (kl_key hk), has_put_same ti.isMap (kl_key hk), putF, if_pos rfl]
      exact ⟨rfl, rfl⟩
    · have ne : kl q ≠ kl k := fun e' => e (kl_inj hq hk e')
      rw [atKey_put_other ne, has_put_other ne, putF, if_neg e]
      exact h3 q hq
section
variable {ops : Array Oper} {rest : List Oper} {Q : Exit → Act → World → Prop} {w w0 : World} {a : Act} {o : Oper} {E : List Nat} {L : List (Nat × List Value)}
theorem mmI {x : Operand} {n : Int} (hw : Region.wanted o (yielded ops a.tmps) = true) (ho : o.op = .makeMap 85 (some x)) (hx : a.eval x = .int .i64 n) (hL : Hq w0 w E L)
    (h : ∀ X B, B = w.heap.size → Hq w0 X E L → MapI X B 0 0 (fun _ => none) → Below w.heap.size w X → wpList Tryz.prog ops Q rest (a.put o.dst (.map (some B))) X) : wpList Tryz.prog ops Q (o :: rest) a w := by
  refine BigFrame.wpList_want hw fun K hK => ?_
  have bl : Below w.heap.size w (w.alloc (Obj.map #[] 0)) := (Below.refl _ _).alloc (Nat.le_refl _) _
  have hP := hK _ _ (h _ _ rfl (hL.on bl) (MapI.made w) bl)
  have e : (Instr.makeMap 85 (some (.int .i64 n))).run Tryz.prog w = .ok (.map (some w.heap.size)) (w.alloc (.map #[] 0)) := by
    simp [Instr.makeMap, run_underlying Tryz.underlying85, asInt, asIntOf, Result.andThen]
  unfold Oper.wp execOp
  simp only [ho, Option.map_some, hx]
  simp [e]
  exact hP
theorem updI {m x y : Operand} {b n sz r : Nat} {F : KK → Option Nat} {k : KK} (hw : Region.wanted o (yielded ops a.tmps) = true) (ho : o.op = .mapUpdate 85 m x y) (hm : a.eval m = .map (some b)) (hx : a.eval x = k.agg) (hy : a.eval y = .int .i64 (r : Nat)) (h : MapI w b n sz F) (hk : OkK k) (hn : n < maxLen)
    (hh : ∀ X, MapI X b (n + 1) (if (F k).isSome then sz else sz + 1) (putF F k r) → Fr w X [b] → wpList Tryz.prog ops Q rest (a.put o.dst undef) X) : wpList Tryz.prog ops Q (o :: rest) a w := by
  obtain ⟨X, h1, h2, h3⟩ := h.store hk hn r
  refine BigFrame.wpList_want hw fun K hK => ?_
  have hP := hK _ _ (hh X h2 (Fr.grown h3.grown))
  unfold Oper.wp
  have e : (execOp a.eval o).run Tryz.prog w = .ok .skip X := by
    unfold execOp
    simp only [ho, hm, hx, hy]
    simp [h1]
  rw [e]
  exact hP
theorem ex_lookI {m x : Operand} {b n sz : Nat} {F : KK → Option Nat} {k : KK} {r : Option Nat} (ho : o.op = .lookup 85 m x true) (hm : a.eval m = .map (some b)) (hx : a.eval x = k.agg) (h : MapI w b n sz F) (hk : OkK k) (hr : F k = r) : (execOp a.eval o).run Tryz.prog w = .ok (.value (.tuple #[.int .i64 (nz r), .bool r.isSome])) w := by
  subst hr
  unfold execOp
  simp only [ho, hm, hx]
  simp [h.look hk]
theorem ex_look1 {m x : Operand} {b n sz : Nat} {F : KK → Option Nat} {k : KK} {r : Option Nat} (ho : o.op = .lookup 85 m x false) (hm : a.eval m = .map (some b)) (hx : a.eval x = k.agg) (h : MapI w b n sz F) (hk : OkK k) (hr : F k = r) : (execOp a.eval o).run Tryz.prog w = .ok (.value (.int .i64 (nz r))) w := by
  subst hr
  unfold execOp
  simp only [ho, hm, hx]
  simp [h.look1 hk]
theorem ex_lenI {m : Operand} {b n sz : Nat} {F : KK → Option Nat} (ho : o.op = .call { callee := .builtin .len, args := #[m], argTypes := #[85] }) (hm : a.eval m = .map (some b)) (h : MapI w b n sz F) : (execOp a.eval o).run Tryz.prog w = .ok (.value (.int .i64 (sz : Nat))) w := by
  have e := h.len o.type
  simp [execOp, ho, resolve, invoke, builtin, hm, e, Result.andThen]
end
/-- An object at two moments. -/
structure CO where
  was : SH
  wA : Option Addr
  wc : Nat
  is : SH
  iA : Option Addr
  ic : Nat
  gone : Bool
def CO.cs (c : CO) : List Value := c.was.cs c.wA c.wc ++ c.is.cs c.iA c.ic ++ [.bool c.gone]
def CO.agg (c : CO) : Value := .agg c.cs.toArray
theorem cocs_one (c : CO) : ∀ u ∈ c.cs, u.oneCell' = true := by simp [CO.cs, SH.cs, VV.cs, Value.oneCell']
/-- One thing that is another one. -/
structure DL where
  o : Int
  wh : Int
  n : Int
  y : Bool
  v : VV
  k : KK
  d : DD
def DL.cs (c : DL) : List Value := [.int .i64 c.o, .int .i64 c.wh, .int .i64 c.n, .bool c.y] ++ c.v.cs ++ c.k.cs ++ c.d.cs
def DL.agg (c : DL) : Value := .agg c.cs.toArray
theorem dlcs_one (c : DL) : ∀ u ∈ c.cs, u.oneCell' = true := by simp [DL.cs, KK.cs, DD.cs, VV.cs, Value.oneCell']
theorem pagg (p : PR) : p.agg = .agg p.cs.toArray := rfl
theorem sagg (p : SH) (A : Option Addr) (c : Nat) : p.agg A c = .agg (p.cs A c).toArray := rfl
end Go.Proofs.YtcflglloopgieaaGreatDoor

/-! Ib -/
namespace Go.Proofs.YtcflglloopgieaaGreatDoor
open Go Go.Proofs Go.Maps Go.RowKit FM
set_option linter.unusedSimpArgs false
set_option linter.unusedVariables false
set_option maxHeartbeats 1000000
attribute [local go_sem] bits_run
theorem num_any (x : Nat) (w : World) : Calls Tryz.prog 81 #[.float .f64 x] w fun e w' => e = .returned (VV.agg ⟨4, false, x, ByteArray.empty, 0⟩) ∧ Below w.heap.size w w' := by
  have LL := hide (Hq.nil w [])
  have HO := hide (outside4 x)
  rw [vagg] at HO
  rw [vagg]
  generalize hv : VV.mk 4 false x ByteArray.empty 0 = v at *
  go_enter Tryz.func81, Tryz.ntmps81
  go_wp2_with (first | go_skip | ((with_reducible show wpList _ _ _ _ _ _); first | ((refine alG 31 (zeroV.cs) (by rfl) rfl (fun w => by kernel_rfl) (Nat.succ_pos _) (unhide LL) ?_); intro X1 B1 hE1 L1 hb1; have hB1 := hide (Nat.le_trans (unhide LL).fr.size (Nat.le_of_eq hE1.symm)); replace LL := hide L1; clear L1 hb1 hE1; simp only [Act.put, List.setIfInBounds_toArray, List.set_cons_succ, List.set_cons_zero])))
  refine (unhide HO _).mono ?_
  rintro e w' ⟨rfl, hb⟩
  replace LL := hide ((unhide LL).on hb)
  clear hb
  go_wp2_with (first | go_skip | ((with_reducible show wpList _ _ _ _ _ _); first | ((refine st (vs := v.cs) 0 31 (by rfl) rfl rfl rfl rfl (vcs_one v) (szV) (unhide LL) rfl (by simp [cput, PR.cs, SH.cs, VV.cs, KK.cs, DD.cs, CO.cs, DL.cs, zeroP, zeroS, zeroD, zeroV]) (Or.inr (unhide hB1)) ?_); intro X2 L2 hf2 hs2; replace LL := hide L2; clear L2 hf2 hs2; simp only [Act.put, List.setIfInBounds_toArray, List.set_cons_succ, List.set_cons_zero])))
  refine ret_c (cs := v.cs) rwV szV rfl rfl rfl ((unhide LL).get 0 rfl) rfl ?_
  exact ⟨rfl, (unhide LL).fr.below⟩
theorem num_good (x : Nat) : VV.good ⟨4, false, x, ByteArray.empty, 0⟩ = true := by
  have e : ByteArray.empty.toList.isEmpty = true := by kernel_rfl
  simp [VV.good, goodV, inG, strV, e]
theorem num_same (x y : Nat) : okE (VV.good ⟨4, false, x, ByteArray.empty, 0⟩ && VV.good ⟨4, false, y, ByteArray.empty, 0⟩) (alikeV sameV ⟨4, false, x, ByteArray.empty, 0⟩ ⟨4, false, y, ByteArray.empty, 0⟩) = .tuple #[.bool (sameV x y), .int .i64 0] := by
  rw [num_good, num_good]
  simp [okE, alikeV, errB]
theorem sameNumber_any (x y : Nat) (w : World) (hT : Lib.Utf8Tabs 1 2 w) : Calls Tryz.prog 65 #[.float .f64 x, .float .f64 y] w fun e w' => e = .returned (.bool (sameV x y)) ∧ Below w.heap.size w w' := by
  have HT := hide hT
  clear hT
  have HS := hide (fun w hT => valueSame_any ⟨4, false, x, ByteArray.empty, 0⟩ ⟨4, false, y, ByteArray.empty, 0⟩ w hT)
  simp only [num_same] at HS
  have HX := hide (num_any x)
  have HY := hide (num_any y)
  generalize VV.agg ⟨4, false, x, ByteArray.empty, 0⟩ = vx at *
  generalize VV.agg ⟨4, false, y, ByteArray.empty, 0⟩ = vy at *
  generalize sameV x y = r at *
  go_enter Tryz.func65, Tryz.ntmps65
  go_wp2_with fail
  refine (unhide HX _).mono ?_
  rintro e w1 ⟨rfl, hb1⟩
  have HB := hide hb1
  clear hb1
  go_wp2_with fail
  refine (unhide HY _).mono ?_
  rintro e w2 ⟨rfl, hb2⟩
  replace HB := hide ((unhide HB).trans (hb2.mono (unhide HB).size))
  clear hb2
  go_wp2_with fail
  refine (unhide HS _ (tabs_below (unhide HT) (unhide HB))).mono ?_
  rintro e w3 ⟨rfl, hb3⟩
  replace HB := hide ((unhide HB).trans (hb3.mono (unhide HB).size))
  clear hb3
  go_wp2
  go_ret
  exact ⟨rfl, unhide HB⟩
theorem size_bits (b : Nat) (hb : b < 2 ^ 64) : bits BinOp.andNot IntKind.u64 (b : Int) 9223372036854775808 = (sz b : Int) := by
  have h := u64_andNot_nat b 9223372036854775808 hb (by decide)
  have e : b &&& (18446744073709551615 - 9223372036854775808) = b % 2 ^ 63 := Nat.and_two_pow_sub_one_eq_mod b 63
  rw [e] at h
  exact h
theorem refSize_any (x : Nat) (hx : x < 2 ^ 64) (w : World) : Calls Tryz.prog 87 #[.float .f64 x] w fun e w' => e = .returned (.int .u64 (sz x : Int)) ∧ w' = w := by
  have hs := size_bits x hx
  clear hx
  go_enter Tryz.func87, Tryz.ntmps87
  go_wp2
  go_ret
  exact ⟨by simp [hs], rfl⟩
theorem refNan_any (x : Nat) (hx : x < 2 ^ 64) (w : World) : Calls Tryz.prog 75 #[.float .f64 x] w fun e w' => e = .returned (.bool (isN x)) ∧ w' = w := by
  have hd : decide ((9218868437227405312 : Int) < (sz x : Int)) = isN x := by unfold isN INF; by_cases h : 9218868437227405312 < sz x <;> simp [h] <;> omega
  have HX := hide (refSize_any x hx)
  clear hx
  generalize isN x = q at *
  go_enter Tryz.func75, Tryz.ntmps75
  go_wp2_with ((go_at_call 87; refine (unhide HX _).mono ?_; rintro _ _ ⟨rfl, rfl⟩))
  go_ret
  exact ⟨by simp [hd], rfl⟩
set_option maxRecDepth 100000 in
theorem refSameN_any (x y : Nat) (hx : x < 2 ^ 64) (hy : y < 2 ^ 64) (w : World) : Calls Tryz.prog 60 #[.float .f64 x, .float .f64 y] w fun e w' => e = .returned (.bool (sameV x y)) ∧ w' = w := by
  have hd : ((x : Int) == (y : Int)) = decide (x = y) := by by_cases h : x = y <;> simp [h] <;> omega
  unfold sameV
  have HX := hide (refNan_any x hx)
  have HY := hide (refNan_any y hy)
  clear hx hy
  generalize isN x = nx at *
  generalize isN y = ny at *
  cases nx
  all_goals
    cases ny
    all_goals
      go_enter Tryz.func60, Tryz.ntmps60
      go_wp2_with (first | (go_at_call 75; first | (refine (unhide HX _).mono ?_; rintro _ _ ⟨rfl, rfl⟩) | (refine (unhide HY _).mono ?_; rintro _ _ ⟨rfl, rfl⟩)))
      go_ret
      exact ⟨by simp [hd], rfl⟩
theorem ex_eqI {o : Oper} {a : Act} {w : World} {x y : Operand} {n m : Int} {r : Bool} (ho : o.op = .binOp .eql 3 x y 3) (hx : a.eval x = .int .i64 n) (hc : a.eval y = .int .i64 m) (h : (n == m) = r) : (execOp a.eval o).run Tryz.prog w = .ok (.value (.bool r)) w := by
  unfold execOp
  simp only [ho, hx, hc]
  simp [go_sem, eqGuard, h]
theorem ex_eqB {o : Oper} {a : Act} {w : World} {x y : Operand} {n m r : Bool} (ho : o.op = .binOp .eql 4 x y 4) (hx : a.eval x = .bool n) (hc : a.eval y = .bool m) (h : (n == m) = r) : (execOp a.eval o).run Tryz.prog w = .ok (.value (.bool r)) w := by
  unfold execOp
  simp only [ho, hx, hc]
  simp [go_sem, eqGuard, h]
theorem ex_eqS {o : Oper} {a : Act} {w : World} {x y : Operand} {n m : ByteArray} {r : Bool} (ho : o.op = .binOp .eql 9 x y 9) (hx : a.eval x = .string n) (hc : a.eval y = .string m) (h : decide (n.toList = m.toList) = r) : (execOp a.eval o).run Tryz.prog w = .ok (.value (.bool r)) w := by
  have h2 : (n.toList == m.toList) = r := by rw [← h]; by_cases e : n.toList = m.toList <;> simp [e]
  unfold execOp
  simp only [ho, hx, hc]
  simp [go_sem, eqGuard, h2]
set_option maxRecDepth 100000 in
theorem refEq_any (a b : VV) (hx : a.x < 2 ^ 64) (hy : b.x < 2 ^ 64) (w : World) : Calls Tryz.prog 42 #[a.agg, b.agg] w fun e w' => e = .returned (.bool (eqB a b)) ∧ Below w.heap.size w w' := by
  obtain ⟨k, c, x, s, i⟩ := a
  obtain ⟨k2, c2, x2, s2, i2⟩ := b
  unfold eqB
  dsimp only at *
  have e1 : (decide (x = x2) || isN x && isN x2) = sameV x x2 := by unfold sameV; rw [Bool.or_comm]
  rw [e1]
  clear e1
  have HS := hide (refSameN_any x x2 hx hy)
  clear hx hy
  generalize sameV x x2 = q at *
  have LL := hide (Hq.nil w [])
  rw [vagg, vagg]
  generalize hk : (k == k2) = ek
  generalize hc : (c == c2) = ec
  generalize hs : decide (s.toList = s2.toList) = es
  generalize hi : (i == i2) = ei
  cases ek
  · go_enter Tryz.func42, Tryz.ntmps42
    go_wp2_with (first | go_skip | ((with_reducible show wpList _ _ _ _ _ _); first | ((refine bx 31 (VV.cs ⟨k, c, x, s, i⟩) (by rfl) rfl rfl rfl (Nat.succ_pos _) (unhide LL) ?_); intro X1 B1 hE1 L1 hb1; have hB1 := hide (Nat.le_trans (unhide LL).fr.size (Nat.le_of_eq hE1.symm)); replace LL := hide L1; clear L1 hb1 hE1; simp only [Act.put, List.setIfInBounds_toArray, List.set_cons_succ, List.set_cons_zero]) | ((refine bx 31 (VV.cs ⟨k2, c2, x2, s2, i2⟩) (by rfl) rfl rfl rfl (Nat.succ_pos _) (unhide LL) ?_); intro X2 B2 hE2 L2 hb2; have hB2 := hide (Nat.le_trans (unhide LL).fr.size (Nat.le_of_eq hE2.symm)); replace LL := hide L2; clear L2 hb2 hE2; simp only [Act.put, List.setIfInBounds_toArray, List.set_cons_succ, List.set_cons_zero]) | ((refine rd (by rfl) (ex_load1 3 Tryz.isAgg3 rfl rfl ((unhide LL).get 0 rfl) rfl) ?_); simp only [Act.put, List.setIfInBounds_toArray, List.set_cons_succ, List.set_cons_zero]) | ((refine rd (by rfl) (ex_load1 3 Tryz.isAgg3 rfl rfl ((unhide LL).get 1 rfl) rfl) ?_); simp only [Act.put, List.setIfInBounds_toArray, List.set_cons_succ, List.set_cons_zero]) | ((refine rd (by rfl) (ex_load1 4 Tryz.isAgg4 rfl rfl ((unhide LL).get 0 rfl) rfl) ?_); simp only [Act.put, List.setIfInBounds_toArray, List.set_cons_succ, List.set_cons_zero]) | ((refine rd (by rfl) (ex_load1 4 Tryz.isAgg4 rfl rfl ((unhide LL).get 1 rfl) rfl) ?_); simp only [Act.put, List.setIfInBounds_toArray, List.set_cons_succ, List.set_cons_zero]) | ((refine rd (by rfl) (ex_load1 9 Tryz.isAgg9 rfl rfl ((unhide LL).get 0 rfl) rfl) ?_); simp only [Act.put, List.setIfInBounds_toArray, List.set_cons_succ, List.set_cons_zero]) | ((refine rd (by rfl) (ex_load1 9 Tryz.isAgg9 rfl rfl ((unhide LL).get 1 rfl) rfl) ?_); simp only [Act.put, List.setIfInBounds_toArray, List.set_cons_succ, List.set_cons_zero]) | ((refine rd (by rfl) (ex_load1 29 Tryz.isAgg29 rfl rfl ((unhide LL).get 0 rfl) rfl) ?_); simp only [Act.put, List.setIfInBounds_toArray, List.set_cons_succ, List.set_cons_zero]) | ((refine rd (by rfl) (ex_load1 29 Tryz.isAgg29 rfl rfl ((unhide LL).get 1 rfl) rfl) ?_); simp only [Act.put, List.setIfInBounds_toArray, List.set_cons_succ, List.set_cons_zero]) | ((refine rd (by rfl) (ex_eqI rfl rfl rfl hk) ?_); simp only [Act.put, List.setIfInBounds_toArray, List.set_cons_succ, List.set_cons_zero]) | ((refine rd (by rfl) (ex_eqI rfl rfl rfl hi) ?_); simp only [Act.put, List.setIfInBounds_toArray, List.set_cons_succ, List.set_cons_zero]) | ((refine rd (by rfl) (ex_eqB rfl rfl rfl hc) ?_); simp only [Act.put, List.setIfInBounds_toArray, List.set_cons_succ, List.set_cons_zero]) | ((refine rd (by rfl) (ex_eqS rfl rfl rfl hs) ?_); simp only [Act.put, List.setIfInBounds_toArray, List.set_cons_succ, List.set_cons_zero])))
    go_ret
    exact ⟨by simp, (unhide LL).fr.below⟩
  · cases ec
    · go_enter Tryz.func42, Tryz.ntmps42
      go_wp2_with (first | go_skip | ((with_reducible show wpList _ _ _ _ _ _); first | ((refine bx 31 (VV.cs ⟨k, c, x, s, i⟩) (by rfl) rfl rfl rfl (Nat.succ_pos _) (unhide LL) ?_); intro X1 B1 hE1 L1 hb1; have hB1 := hide (Nat.le_trans (unhide LL).fr.size (Nat.le_of_eq hE1.symm)); replace LL := hide L1; clear L1 hb1 hE1; simp only [Act.put, List.setIfInBounds_toArray, List.set_cons_succ, List.set_cons_zero]) | ((refine bx 31 (VV.cs ⟨k2, c2, x2, s2, i2⟩) (by rfl) rfl rfl rfl (Nat.succ_pos _) (unhide LL) ?_); intro X2 B2 hE2 L2 hb2; have hB2 := hide (Nat.le_trans (unhide LL).fr.size (Nat.le_of_eq hE2.symm)); replace LL := hide L2; clear L2 hb2 hE2; simp only [Act.put, List.setIfInBounds_toArray, List.set_cons_succ, List.set_cons_zero]) | ((refine rd (by rfl) (ex_load1 3 Tryz.isAgg3 rfl rfl ((unhide LL).get 0 rfl) rfl) ?_); simp only [Act.put, List.setIfInBounds_toArray, List.set_cons_succ, List.set_cons_zero]) | ((refine rd (by rfl) (ex_load1 3 Tryz.isAgg3 rfl rfl ((unhide LL).get 1 rfl) rfl) ?_); simp only [Act.put, List.setIfInBounds_toArray, List.set_cons_succ, List.set_cons_zero]) | ((refine rd (by rfl) (ex_load1 4 Tryz.isAgg4 rfl rfl ((unhide LL).get 0 rfl) rfl) ?_); simp only [Act.put, List.setIfInBounds_toArray, List.set_cons_succ, List.set_cons_zero]) | ((refine rd (by rfl) (ex_load1 4 Tryz.isAgg4 rfl rfl ((unhide LL).get 1 rfl) rfl) ?_); simp only [Act.put, List.setIfInBounds_toArray, List.set_cons_succ, List.set_cons_zero]) | ((refine rd (by rfl) (ex_load1 9 Tryz.isAgg9 rfl rfl ((unhide LL).get 0 rfl) rfl) ?_); simp only [Act.put, List.setIfInBounds_toArray, List.set_cons_succ, List.set_cons_zero]) | ((refine rd (by rfl) (ex_load1 9 Tryz.isAgg9 rfl rfl ((unhide LL).get 1 rfl) rfl) ?_); simp only [Act.put, List.setIfInBounds_toArray, List.set_cons_succ, List.set_cons_zero]) | ((refine rd (by rfl) (ex_load1 29 Tryz.isAgg29 rfl rfl ((unhide LL).get 0 rfl) rfl) ?_); simp only [Act.put, List.setIfInBounds_toArray, List.set_cons_succ, List.set_cons_zero]) | ((refine rd (by rfl) (ex_load1 29 Tryz.isAgg29 rfl rfl ((unhide LL).get 1 rfl) rfl) ?_); simp only [Act.put, List.setIfInBounds_toArray, List.set_cons_succ, List.set_cons_zero]) | ((refine rd (by rfl) (ex_eqI rfl rfl rfl hk) ?_); simp only [Act.put, List.setIfInBounds_toArray, List.set_cons_succ, List.set_cons_zero]) | ((refine rd (by rfl) (ex_eqI rfl rfl rfl hi) ?_); simp only [Act.put, List.setIfInBounds_toArray, List.set_cons_succ, List.set_cons_zero]) | ((refine rd (by rfl) (ex_eqB rfl rfl rfl hc) ?_); simp only [Act.put, List.setIfInBounds_toArray, List.set_cons_succ, List.set_cons_zero]) | ((refine rd (by rfl) (ex_eqS rfl rfl rfl hs) ?_); simp only [Act.put, List.setIfInBounds_toArray, List.set_cons_succ, List.set_cons_zero])))
      go_ret
      exact ⟨by simp, (unhide LL).fr.below⟩
    · cases es
      · go_enter Tryz.func42, Tryz.ntmps42
        go_wp2_with (first | go_skip | ((with_reducible show wpList _ _ _ _ _ _); first | ((refine bx 31 (VV.cs ⟨k, c, x, s, i⟩) (by rfl) rfl rfl rfl (Nat.succ_pos _) (unhide LL) ?_); intro X1 B1 hE1 L1 hb1; have hB1 := hide (Nat.le_trans (unhide LL).fr.size (Nat.le_of_eq hE1.symm)); replace LL := hide L1; clear L1 hb1 hE1; simp only [Act.put, List.setIfInBounds_toArray, List.set_cons_succ, List.set_cons_zero]) | ((refine bx 31 (VV.cs ⟨k2, c2, x2, s2, i2⟩) (by rfl) rfl rfl rfl (Nat.succ_pos _) (unhide LL) ?_); intro X2 B2 hE2 L2 hb2; have hB2 := hide (Nat.le_trans (unhide LL).fr.size (Nat.le_of_eq hE2.symm)); replace LL := hide L2; clear L2 hb2 hE2; simp only [Act.put, List.setIfInBounds_toArray, List.set_cons_succ, List.set_cons_zero]) | ((refine rd (by rfl) (ex_load1 3 Tryz.isAgg3 rfl rfl ((unhide LL).get 0 rfl) rfl) ?_); simp only [Act.put, List.setIfInBounds_toArray, List.set_cons_succ, List.set_cons_zero]) | ((refine rd (by rfl) (ex_load1 3 Tryz.isAgg3 rfl rfl ((unhide LL).get 1 rfl) rfl) ?_); simp only [Act.put, List.setIfInBounds_toArray, List.set_cons_succ, List.set_cons_zero]) | ((refine rd (by rfl) (ex_load1 4 Tryz.isAgg4 rfl rfl ((unhide LL).get 0 rfl) rfl) ?_); simp only [Act.put, List.setIfInBounds_toArray, List.set_cons_succ, List.set_cons_zero]) | ((refine rd (by rfl) (ex_load1 4 Tryz.isAgg4 rfl rfl ((unhide LL).get 1 rfl) rfl) ?_); simp only [Act.put, List.setIfInBounds_toArray, List.set_cons_succ, List.set_cons_zero]) | ((refine rd (by rfl) (ex_load1 9 Tryz.isAgg9 rfl rfl ((unhide LL).get 0 rfl) rfl) ?_); simp only [Act.put, List.setIfInBounds_toArray, List.set_cons_succ, List.set_cons_zero]) | ((refine rd (by rfl) (ex_load1 9 Tryz.isAgg9 rfl rfl ((unhide LL).get 1 rfl) rfl) ?_); simp only [Act.put, List.setIfInBounds_toArray, List.set_cons_succ, List.set_cons_zero]) | ((refine rd (by rfl) (ex_load1 29 Tryz.isAgg29 rfl rfl ((unhide LL).get 0 rfl) rfl) ?_); simp only [Act.put, List.setIfInBounds_toArray, List.set_cons_succ, List.set_cons_zero]) | ((refine rd (by rfl) (ex_load1 29 Tryz.isAgg29 rfl rfl ((unhide LL).get 1 rfl) rfl) ?_); simp only [Act.put, List.setIfInBounds_toArray, List.set_cons_succ, List.set_cons_zero]) | ((refine rd (by rfl) (ex_eqI rfl rfl rfl hk) ?_); simp only [Act.put, List.setIfInBounds_toArray, List.set_cons_succ, List.set_cons_zero]) | ((refine rd (by rfl) (ex_eqI rfl rfl rfl hi) ?_); simp only [Act.put, List.setIfInBounds_toArray, List.set_cons_succ, List.set_cons_zero]) | ((refine rd (by rfl) (ex_eqB rfl rfl rfl hc) ?_); simp only [Act.put, List.setIfInBounds_toArray, List.set_cons_succ, List.set_cons_zero]) | ((refine rd (by rfl) (ex_eqS rfl rfl rfl hs) ?_); simp only [Act.put, List.setIfInBounds_toArray, List.set_cons_succ, List.set_cons_zero])))
        go_ret
        exact ⟨by simp, (unhide LL).fr.below⟩
      · cases ei
        · go_enter Tryz.func42, Tryz.ntmps42
          go_wp2_with (first | go_skip | ((with_reducible show wpList _ _ _ _ _ _); first | ((refine bx 31 (VV.cs ⟨k, c, x, s, i⟩) (by rfl) rfl rfl rfl (Nat.succ_pos _) (unhide LL) ?_); intro X1 B1 hE1 L1 hb1; have hB1 := hide (Nat.le_trans (unhide LL).fr.size (Nat.le_of_eq hE1.symm)); replace LL := hide L1; clear L1 hb1 hE1; simp only [Act.put, List.setIfInBounds_toArray, List.set_cons_succ, List.set_cons_zero]) | ((refine bx 31 (VV.cs ⟨k2, c2, x2, s2, i2⟩) (by rfl) rfl rfl rfl (Nat.succ_pos _) (unhide LL) ?_); intro X2 B2 hE2 L2 hb2; have hB2 := hide (Nat.le_trans (unhide LL).fr.size (Nat.le_of_eq hE2.symm)); replace LL := hide L2; clear L2 hb2 hE2; simp only [Act.put, List.setIfInBounds_toArray, List.set_cons_succ, List.set_cons_zero]) | ((refine rd (by rfl) (ex_load1 3 Tryz.isAgg3 rfl rfl ((unhide LL).get 0 rfl) rfl) ?_); simp only [Act.put, List.setIfInBounds_toArray, List.set_cons_succ, List.set_cons_zero]) | ((refine rd (by rfl) (ex_load1 3 Tryz.isAgg3 rfl rfl ((unhide LL).get 1 rfl) rfl) ?_); simp only [Act.put, List.setIfInBounds_toArray, List.set_cons_succ, List.set_cons_zero]) | ((refine rd (by rfl) (ex_load1 4 Tryz.isAgg4 rfl rfl ((unhide LL).get 0 rfl) rfl) ?_); simp only [Act.put, List.setIfInBounds_toArray, List.set_cons_succ, List.set_cons_zero]) | ((refine rd (by rfl) (ex_load1 4 Tryz.isAgg4 rfl rfl ((unhide LL).get 1 rfl) rfl) ?_); simp only [Act.put, List.setIfInBounds_toArray, List.set_cons_succ, List.set_cons_zero]) | ((refine rd (by rfl) (ex_load1 9 Tryz.isAgg9 rfl rfl ((unhide LL).get 0 rfl) rfl) ?_); simp only [Act.put, List.setIfInBounds_toArray, List.set_cons_succ, List.set_cons_zero]) | ((refine rd (by rfl) (ex_load1 9 Tryz.isAgg9 rfl rfl ((unhide LL).get 1 rfl) rfl) ?_); simp only [Act.put, List.setIfInBounds_toArray, List.set_cons_succ, List.set_cons_zero]) | ((refine rd (by rfl) (ex_load1 29 Tryz.isAgg29 rfl rfl ((unhide LL).get 0 rfl) rfl) ?_); simp only [Act.put, List.setIfInBounds_toArray, List.set_cons_succ, List.set_cons_zero]) | ((refine rd (by rfl) (ex_load1 29 Tryz.isAgg29 rfl rfl ((unhide LL).get 1 rfl) rfl) ?_); simp only [Act.put, List.setIfInBounds_toArray, List.set_cons_succ, List.set_cons_zero]) | ((refine rd (by rfl) (ex_eqI rfl rfl rfl hk) ?_); simp only [Act.put, List.setIfInBounds_toArray, List.set_cons_succ, List.set_cons_zero]) | ((refine rd (by rfl) (ex_eqI rfl rfl rfl hi) ?_); simp only [Act.put, List.setIfInBounds_toArray, List.set_cons_succ, List.set_cons_zero]) | ((refine rd (by rfl) (ex_eqB rfl rfl rfl hc) ?_); simp only [Act.put, List.setIfInBounds_toArray, List.set_cons_succ, List.set_cons_zero]) | ((refine rd (by rfl) (ex_eqS rfl rfl rfl hs) ?_); simp only [Act.put, List.setIfInBounds_toArray, List.set_cons_succ, List.set_cons_zero])))
          go_ret
          exact ⟨by simp, (unhide LL).fr.below⟩
        · go_enter Tryz.func42, Tryz.ntmps42
          go_wp2_with (first | go_skip | ((with_reducible show wpList _ _ _ _ _ _); first | ((refine bx 31 (VV.cs ⟨k, c, x, s, i⟩) (by rfl) rfl rfl rfl (Nat.succ_pos _) (unhide LL) ?_); intro X1 B1 hE1 L1 hb1; have hB1 := hide (Nat.le_trans (unhide LL).fr.size (Nat.le_of_eq hE1.symm)); replace LL := hide L1; clear L1 hb1 hE1; simp only [Act.put, List.setIfInBounds_toArray, List.set_cons_succ, List.set_cons_zero]) | ((refine bx 31 (VV.cs ⟨k2, c2, x2, s2, i2⟩) (by rfl) rfl rfl rfl (Nat.succ_pos _) (unhide LL) ?_); intro X2 B2 hE2 L2 hb2; have hB2 := hide (Nat.le_trans (unhide LL).fr.size (Nat.le_of_eq hE2.symm)); replace LL := hide L2; clear L2 hb2 hE2; simp only [Act.put, List.setIfInBounds_toArray, List.set_cons_succ, List.set_cons_zero]) | ((refine rd (by rfl) (ex_load1 3 Tryz.isAgg3 rfl rfl ((unhide LL).get 0 rfl) rfl) ?_); simp only [Act.put, List.setIfInBounds_toArray, List.set_cons_succ, List.set_cons_zero]) | ((refine rd (by rfl) (ex_load1 3 Tryz.isAgg3 rfl rfl ((unhide LL).get 1 rfl) rfl) ?_); simp only [Act.put, List.setIfInBounds_toArray, List.set_cons_succ, List.set_cons_zero]) | ((refine rd (by rfl) (ex_load1 4 Tryz.isAgg4 rfl rfl ((unhide LL).get 0 rfl) rfl) ?_); simp only [Act.put, List.setIfInBounds_toArray, List.set_cons_succ, List.set_cons_zero]) | ((refine rd (by rfl) (ex_load1 4 Tryz.isAgg4 rfl rfl ((unhide LL).get 1 rfl) rfl) ?_); simp only [Act.put, List.setIfInBounds_toArray, List.set_cons_succ, List.set_cons_zero]) | ((refine rd (by rfl) (ex_load1 9 Tryz.isAgg9 rfl rfl ((unhide LL).get 0 rfl) rfl) ?_); simp only [Act.put, List.setIfInBounds_toArray, List.set_cons_succ, List.set_cons_zero]) | ((refine rd (by rfl) (ex_load1 9 Tryz.isAgg9 rfl rfl ((unhide LL).get 1 rfl) rfl) ?_); simp only [Act.put, List.setIfInBounds_toArray, List.set_cons_succ, List.set_cons_zero]) | ((refine rd (by rfl) (ex_load1 29 Tryz.isAgg29 rfl rfl ((unhide LL).get 0 rfl) rfl) ?_); simp only [Act.put, List.setIfInBounds_toArray, List.set_cons_succ, List.set_cons_zero]) | ((refine rd (by rfl) (ex_load1 29 Tryz.isAgg29 rfl rfl ((unhide LL).get 1 rfl) rfl) ?_); simp only [Act.put, List.setIfInBounds_toArray, List.set_cons_succ, List.set_cons_zero]) | ((refine rd (by rfl) (ex_eqI rfl rfl rfl hk) ?_); simp only [Act.put, List.setIfInBounds_toArray, List.set_cons_succ, List.set_cons_zero]) | ((refine rd (by rfl) (ex_eqI rfl rfl rfl hi) ?_); simp only [Act.put, List.setIfInBounds_toArray, List.set_cons_succ, List.set_cons_zero]) | ((refine rd (by rfl) (ex_eqB rfl rfl rfl hc) ?_); simp only [Act.put, List.setIfInBounds_toArray, List.set_cons_succ, List.set_cons_zero]) | ((refine rd (by rfl) (ex_eqS rfl rfl rfl hs) ?_); simp only [Act.put, List.setIfInBounds_toArray, List.set_cons_succ, List.set_cons_zero])))
          refine (unhide HS _).mono ?_
          rintro e w' ⟨rfl, rfl⟩
          go_wp2_with (first | go_skip | ((with_reducible show wpList _ _ _ _ _ _); first | ((refine bx 31 (VV.cs ⟨k, c, x, s, i⟩) (by rfl) rfl rfl rfl (Nat.succ_pos _) (unhide LL) ?_); intro X1 B1 hE1 L1 hb1; have hB1 := hide (Nat.le_trans (unhide LL).fr.size (Nat.le_of_eq hE1.symm)); replace LL := hide L1; clear L1 hb1 hE1; simp only [Act.put, List.setIfInBounds_toArray, List.set_cons_succ, List.set_cons_zero]) | ((refine bx 31 (VV.cs ⟨k2, c2, x2, s2, i2⟩) (by rfl) rfl rfl rfl (Nat.succ_pos _) (unhide LL) ?_); intro X2 B2 hE2 L2 hb2; have hB2 := hide (Nat.le_trans (unhide LL).fr.size (Nat.le_of_eq hE2.symm)); replace LL := hide L2; clear L2 hb2 hE2; simp only [Act.put, List.setIfInBounds_toArray, List.set_cons_succ, List.set_cons_zero]) | ((refine rd (by rfl) (ex_load1 3 Tryz.isAgg3 rfl rfl ((unhide LL).get 0 rfl) rfl) ?_); simp only [Act.put, List.setIfInBounds_toArray, List.set_cons_succ, List.set_cons_zero]) | ((refine rd (by rfl) (ex_load1 3 Tryz.isAgg3 rfl rfl ((unhide LL).get 1 rfl) rfl) ?_); simp only [Act.put, List.setIfInBounds_toArray, List.set_cons_succ, List.set_cons_zero]) | ((refine rd (by rfl) (ex_load1 4 Tryz.isAgg4 rfl rfl ((unhide LL).get 0 rfl) rfl) ?_); simp only [Act.put, List.setIfInBounds_toArray, List.set_cons_succ, List.set_cons_zero]) | ((refine rd (by rfl) (ex_load1 4 Tryz.isAgg4 rfl rfl ((unhide LL).get 1 rfl) rfl) ?_); simp only [Act.put, List.setIfInBounds_toArray, List.set_cons_succ, List.set_cons_zero]) | ((refine rd (by rfl) (ex_load1 9 Tryz.isAgg9 rfl rfl ((unhide LL).get 0 rfl) rfl) ?_); simp only [Act.put, List.setIfInBounds_toArray, List.set_cons_succ, List.set_cons_zero]) | ((refine rd (by rfl) (ex_load1 9 Tryz.isAgg9 rfl rfl ((unhide LL).get 1 rfl) rfl) ?_); simp only [Act.put, List.setIfInBounds_toArray, List.set_cons_succ, List.set_cons_zero]) | ((refine rd (by rfl) (ex_load1 29 Tryz.isAgg29 rfl rfl ((unhide LL).get 0 rfl) rfl) ?_); simp only [Act.put, List.setIfInBounds_toArray, List.set_cons_succ, List.set_cons_zero]) | ((refine rd (by rfl) (ex_load1 29 Tryz.isAgg29 rfl rfl ((unhide LL).get 1 rfl) rfl) ?_); simp only [Act.put, List.setIfInBounds_toArray, List.set_cons_succ, List.set_cons_zero]) | ((refine rd (by rfl) (ex_eqI rfl rfl rfl hk) ?_); simp only [Act.put, List.setIfInBounds_toArray, List.set_cons_succ, List.set_cons_zero]) | ((refine rd (by rfl) (ex_eqI rfl rfl rfl hi) ?_); simp only [Act.put, List.setIfInBounds_toArray, List.set_cons_succ, List.set_cons_zero]) | ((refine rd (by rfl) (ex_eqB rfl rfl rfl hc) ?_); simp only [Act.put, List.setIfInBounds_toArray, List.set_cons_succ, List.set_cons_zero]) | ((refine rd (by rfl) (ex_eqS rfl rfl rfl hs) ?_); simp only [Act.put, List.setIfInBounds_toArray, List.set_cons_succ, List.set_cons_zero])))
          go_ret
          exact ⟨by simp, (unhide LL).fr.below⟩
set_option maxRecDepth 100000 in
theorem sameValue_any (a b : VV) (w : World) (hT : Lib.Utf8Tabs 1 2 w) : Calls Tryz.prog 45 #[a.agg, b.agg] w fun e w' => e = .returned (.bool (eqB a b)) ∧ Below w.heap.size w w' := by
  obtain ⟨k, c, x, s, i⟩ := a
  obtain ⟨k2, c2, x2, s2, i2⟩ := b
  unfold eqB
  dsimp only at *
  have e1 : (decide (x = x2) || isN x && isN x2) = sameV x x2 := by unfold sameV; rw [Bool.or_comm]
  rw [e1]
  clear e1
  have HS := hide (sameNumber_any x x2)
  have HT := hide hT
  generalize sameV x x2 = q at *
  have LL := hide (Hq.nil w [])
  clear hT
  rw [vagg, vagg]
  generalize hk : (k == k2) = ek
  generalize hc : (c == c2) = ec
  generalize hs : decide (s.toList = s2.toList) = es
  generalize hi : (i == i2) = ei
  cases ek
  · go_enter Tryz.func45, Tryz.ntmps45
    go_wp2_with (first | go_skip | ((with_reducible show wpList _ _ _ _ _ _); first | ((refine bx 31 (VV.cs ⟨k, c, x, s, i⟩) (by rfl) rfl rfl rfl (Nat.succ_pos _) (unhide LL) ?_); intro X1 B1 hE1 L1 hb1; have hB1 := hide (Nat.le_trans (unhide LL).fr.size (Nat.le_of_eq hE1.symm)); replace LL := hide L1; clear L1 hb1 hE1; simp only [Act.put, List.setIfInBounds_toArray, List.set_cons_succ, List.set_cons_zero]) | ((refine bx 31 (VV.cs ⟨k2, c2, x2, s2, i2⟩) (by rfl) rfl rfl rfl (Nat.succ_pos _) (unhide LL) ?_); intro X2 B2 hE2 L2 hb2; have hB2 := hide (Nat.le_trans (unhide LL).fr.size (Nat.le_of_eq hE2.symm)); replace LL := hide L2; clear L2 hb2 hE2; simp only [Act.put, List.setIfInBounds_toArray, List.set_cons_succ, List.set_cons_zero]) | ((refine rd (by rfl) (ex_load1 3 Tryz.isAgg3 rfl rfl ((unhide LL).get 0 rfl) rfl) ?_); simp only [Act.put, List.setIfInBounds_toArray, List.set_cons_succ, List.set_cons_zero]) | ((refine rd (by rfl) (ex_load1 3 Tryz.isAgg3 rfl rfl ((unhide LL).get 1 rfl) rfl) ?_); simp only [Act.put, List.setIfInBounds_toArray, List.set_cons_succ, List.set_cons_zero]) | ((refine rd (by rfl) (ex_load1 4 Tryz.isAgg4 rfl rfl ((unhide LL).get 0 rfl) rfl) ?_); simp only [Act.put, List.setIfInBounds_toArray, List.set_cons_succ, List.set_cons_zero]) | ((refine rd (by rfl) (ex_load1 4 Tryz.isAgg4 rfl rfl ((unhide LL).get 1 rfl) rfl) ?_); simp only [Act.put, List.setIfInBounds_toArray, List.set_cons_succ, List.set_cons_zero]) | ((refine rd (by rfl) (ex_load1 9 Tryz.isAgg9 rfl rfl ((unhide LL).get 0 rfl) rfl) ?_); simp only [Act.put, List.setIfInBounds_toArray, List.set_cons_succ, List.set_cons_zero]) | ((refine rd (by rfl) (ex_load1 9 Tryz.isAgg9 rfl rfl ((unhide LL).get 1 rfl) rfl) ?_); simp only [Act.put, List.setIfInBounds_toArray, List.set_cons_succ, List.set_cons_zero]) | ((refine rd (by rfl) (ex_load1 29 Tryz.isAgg29 rfl rfl ((unhide LL).get 0 rfl) rfl) ?_); simp only [Act.put, List.setIfInBounds_toArray, List.set_cons_succ, List.set_cons_zero]) | ((refine rd (by rfl) (ex_load1 29 Tryz.isAgg29 rfl rfl ((unhide LL).get 1 rfl) rfl) ?_); simp only [Act.put, List.setIfInBounds_toArray, List.set_cons_succ, List.set_cons_zero]) | ((refine rd (by rfl) (ex_eqI rfl rfl rfl hk) ?_); simp only [Act.put, List.setIfInBounds_toArray, List.set_cons_succ, List.set_cons_zero]) | ((refine rd (by rfl) (ex_eqI rfl rfl rfl hi) ?_); simp only [Act.put, List.setIfInBounds_toArray, List.set_cons_succ, List.set_cons_zero]) | ((refine rd (by rfl) (ex_eqB rfl rfl rfl hc) ?_); simp only [Act.put, List.setIfInBounds_toArray, List.set_cons_succ, List.set_cons_zero]) | ((refine rd (by rfl) (ex_eqS rfl rfl rfl hs) ?_); simp only [Act.put, List.setIfInBounds_toArray, List.set_cons_succ, List.set_cons_zero])))
    go_ret
    exact ⟨by simp, (unhide LL).fr.below⟩
  · cases ec
    · go_enter Tryz.func45, Tryz.ntmps45
      go_wp2_with (first | go_skip | ((with_reducible show wpList _ _ _ _ _ _); first | ((refine bx 31 (VV.cs ⟨k, c, x, s, i⟩) (by rfl) rfl rfl rfl (Nat.succ_pos _) (unhide LL) ?_); intro X1 B1 hE1 L1 hb1; have hB1 := hide (Nat.le_trans (unhide LL).fr.size (Nat.le_of_eq hE1.symm)); replace LL := hide L1; clear L1 hb1 hE1; simp only [Act.put, List.setIfInBounds_toArray, List.set_cons_succ, List.set_cons_zero]) | ((refine bx 31 (VV.cs ⟨k2, c2, x2, s2, i2⟩) (by rfl) rfl rfl rfl (Nat.succ_pos _) (unhide LL) ?_); intro X2 B2 hE2 L2 hb2; have hB2 := hide (Nat.le_trans (unhide LL).fr.size (Nat.le_of_eq hE2.symm)); replace LL := hide L2; clear L2 hb2 hE2; simp only [Act.put, List.setIfInBounds_toArray, List.set_cons_succ, List.set_cons_zero]) | ((refine rd (by rfl) (ex_load1 3 Tryz.isAgg3 rfl rfl ((unhide LL).get 0 rfl) rfl) ?_); simp only [Act.put, List.setIfInBounds_toArray, List.set_cons_succ, List.set_cons_zero]) | ((refine rd (by rfl) (ex_load1 3 Tryz.isAgg3 rfl rfl ((unhide LL).get 1 rfl) rfl) ?_); simp only [Act.put, List.setIfInBounds_toArray, List.set_cons_succ, List.set_cons_zero]) | ((refine rd (by rfl) (ex_load1 4 Tryz.isAgg4 rfl rfl ((unhide LL).get 0 rfl) rfl) ?_); simp only [Act.put, List.setIfInBounds_toArray, List.set_cons_succ, List.set_cons_zero]) | ((refine rd (by rfl) (ex_load1 4 Tryz.isAgg4 rfl rfl ((unhide LL).get 1 rfl) rfl) ?_); simp only [Act.put, List.setIfInBounds_toArray, List.set_cons_succ, List.set_cons_zero]) | ((refine rd (by rfl) (ex_load1 9 Tryz.isAgg9 rfl rfl ((unhide LL).get 0 rfl) rfl) ?_); simp only [Act.put, List.setIfInBounds_toArray, List.set_cons_succ, List.set_cons_zero]) | ((refine rd (by rfl) (ex_load1 9 Tryz.isAgg9 rfl rfl ((unhide LL).get 1 rfl) rfl) ?_); simp only [Act.put, List.setIfInBounds_toArray, List.set_cons_succ, List.set_cons_zero]) | ((refine rd (by rfl) (ex_load1 29 Tryz.isAgg29 rfl rfl ((unhide LL).get 0 rfl) rfl) ?_); simp only [Act.put, List.setIfInBounds_toArray, List.set_cons_succ, List.set_cons_zero]) | ((refine rd (by rfl) (ex_load1 29 Tryz.isAgg29 rfl rfl ((unhide LL).get 1 rfl) rfl) ?_); simp only [Act.put, List.setIfInBounds_toArray, List.set_cons_succ, List.set_cons_zero]) | ((refine rd (by rfl) (ex_eqI rfl rfl rfl hk) ?_); simp only [Act.put, List.setIfInBounds_toArray, List.set_cons_succ, List.set_cons_zero]) | ((refine rd (by rfl) (ex_eqI rfl rfl rfl hi) ?_); simp only [Act.put, List.setIfInBounds_toArray, List.set_cons_succ, List.set_cons_zero]) | ((refine rd (by rfl) (ex_eqB rfl rfl rfl hc) ?_); simp only [Act.put, List.setIfInBounds_toArray, List.set_cons_succ, List.set_cons_zero]) | ((refine rd (by rfl) (ex_eqS rfl rfl rfl hs) ?_); simp only [Act.put, List.setIfInBounds_toArray, List.set_cons_succ, List.set_cons_zero])))
      go_ret
      exact ⟨by simp, (unhide LL).fr.below⟩
    · cases ei
      · go_enter Tryz.func45, Tryz.ntmps45
        go_wp2_with (first | go_skip | ((with_reducible show wpList _ _ _ _ _ _); first | ((refine bx 31 (VV.cs ⟨k, c, x, s, i⟩) (by rfl) rfl rfl rfl (Nat.succ_pos _) (unhide LL) ?_); intro X1 B1 hE1 L1 hb1; have hB1 := hide (Nat.le_trans (unhide LL).fr.size (Nat.le_of_eq hE1.symm)); replace LL := hide L1; clear L1 hb1 hE1; simp only [Act.put, List.setIfInBounds_toArray, List.set_cons_succ, List.set_cons_zero]) | ((refine bx 31 (VV.cs ⟨k2, c2, x2, s2, i2⟩) (by rfl) rfl rfl rfl (Nat.succ_pos _) (unhide LL) ?_); intro X2 B2 hE2 L2 hb2; have hB2 := hide (Nat.le_trans (unhide LL).fr.size (Nat.le_of_eq hE2.symm)); replace LL := hide L2; clear L2 hb2 hE2; simp only [Act.put, List.setIfInBounds_toArray, List.set_cons_succ, List.set_cons_zero]) | ((refine rd (by rfl) (ex_load1 3 Tryz.isAgg3 rfl rfl ((unhide LL).get 0 rfl) rfl) ?_); simp only [Act.put, List.setIfInBounds_toArray, List.set_cons_succ, List.set_cons_zero]) | ((refine rd (by rfl) (ex_load1 3 Tryz.isAgg3 rfl rfl ((unhide LL).get 1 rfl) rfl) ?_); simp only [Act.put, List.setIfInBounds_toArray, List.set_cons_succ, List.set_cons_zero]) | ((refine rd (by rfl) (ex_load1 4 Tryz.isAgg4 rfl rfl ((unhide LL).get 0 rfl) rfl) ?_); simp only [Act.put, List.setIfInBounds_toArray, List.set_cons_succ, List.set_cons_zero]) | ((refine rd (by rfl) (ex_load1 4 Tryz.isAgg4 rfl rfl ((unhide LL).get 1 rfl) rfl) ?_); simp only [Act.put, List.setIfInBounds_toArray, List.set_cons_succ, List.set_cons_zero]) | ((refine rd (by rfl) (ex_load1 9 Tryz.isAgg9 rfl rfl ((unhide LL).get 0 rfl) rfl) ?_); simp only [Act.put, List.setIfInBounds_toArray, List.set_cons_succ, List.set_cons_zero]) | ((refine rd (by rfl) (ex_load1 9 Tryz.isAgg9 rfl rfl ((unhide LL).get 1 rfl) rfl) ?_); simp only [Act.put, List.setIfInBounds_toArray, List.set_cons_succ, List.set_cons_zero]) | ((refine rd (by rfl) (ex_load1 29 Tryz.isAgg29 rfl rfl ((unhide LL).get 0 rfl) rfl) ?_); simp only [Act.put, List.setIfInBounds_toArray, List.set_cons_succ, List.set_cons_zero]) | ((refine rd (by rfl) (ex_load1 29 Tryz.isAgg29 rfl rfl ((unhide LL).get 1 rfl) rfl) ?_); simp only [Act.put, List.setIfInBounds_toArray, List.set_cons_succ, List.set_cons_zero]) | ((refine rd (by rfl) (ex_eqI rfl rfl rfl hk) ?_); simp only [Act.put, List.setIfInBounds_toArray, List.set_cons_succ, List.set_cons_zero]) | ((refine rd (by rfl) (ex_eqI rfl rfl rfl hi) ?_); simp only [Act.put, List.setIfInBounds_toArray, List.set_cons_succ, List.set_cons_zero]) | ((refine rd (by rfl) (ex_eqB rfl rfl rfl hc) ?_); simp only [Act.put, List.setIfInBounds_toArray, List.set_cons_succ, List.set_cons_zero]) | ((refine rd (by rfl) (ex_eqS rfl rfl rfl hs) ?_); simp only [Act.put, List.setIfInBounds_toArray, List.set_cons_succ, List.set_cons_zero])))
        go_ret
        exact ⟨by simp, (unhide LL).fr.below⟩
      · cases es
        · go_enter Tryz.func45, Tryz.ntmps45
          go_wp2_with (first | go_skip | ((with_reducible show wpList _ _ _ _ _ _); first | ((refine bx 31 (VV.cs ⟨k, c, x, s, i⟩) (by rfl) rfl rfl rfl (Nat.succ_pos _) (unhide LL) ?_); intro X1 B1 hE1 L1 hb1; have hB1 := hide (Nat.le_trans (unhide LL).fr.size (Nat.le_of_eq hE1.symm)); replace LL := hide L1; clear L1 hb1 hE1; simp only [Act.put, List.setIfInBounds_toArray, List.set_cons_succ, List.set_cons_zero]) | ((refine bx 31 (VV.cs ⟨k2, c2, x2, s2, i2⟩) (by rfl) rfl rfl rfl (Nat.succ_pos _) (unhide LL) ?_); intro X2 B2 hE2 L2 hb2; have hB2 := hide (Nat.le_trans (unhide LL).fr.size (Nat.le_of_eq hE2.symm)); replace LL := hide L2; clear L2 hb2 hE2; simp only [Act.put, List.setIfInBounds_toArray, List.set_cons_succ, List.set_cons_zero]) | ((refine rd (by rfl) (ex_load1 3 Tryz.isAgg3 rfl rfl ((unhide LL).get 0 rfl) rfl) ?_); simp only [Act.put, List.setIfInBounds_toArray, List.set_cons_succ, List.set_cons_zero]) | ((refine rd (by rfl) (ex_load1 3 Tryz.isAgg3 rfl rfl ((unhide LL).get 1 rfl) rfl) ?_); simp only [Act.put, List.setIfInBounds_toArray, List.set_cons_succ, List.set_cons_zero]) | ((refine rd (by rfl) (ex_load1 4 Tryz.isAgg4 rfl rfl ((unhide LL).get 0 rfl) rfl) ?_); simp only [Act.put, List.setIfInBounds_toArray, List.set_cons_succ, List.set_cons_zero]) | ((refine rd (by rfl) (ex_load1 4 Tryz.isAgg4 rfl rfl ((unhide LL).get 1 rfl) rfl) ?_); simp only [Act.put, List.setIfInBounds_toArray, List.set_cons_succ, List.set_cons_zero]) | ((refine rd (by rfl) (ex_load1 9 Tryz.isAgg9 rfl rfl ((unhide LL).get 0 rfl) rfl) ?_); simp only [Act.put, List.setIfInBounds_toArray, List.set_cons_succ, List.set_cons_zero]) | ((refine rd (by rfl) (ex_load1 9 Tryz.isAgg9 rfl rfl ((unhide LL).get 1 rfl) rfl) ?_); simp only [Act.put, List.setIfInBounds_toArray, List.set_cons_succ, List.set_cons_zero]) | ((refine rd (by rfl) (ex_load1 29 Tryz.isAgg29 rfl rfl ((unhide LL).get 0 rfl) rfl) ?_); simp only [Act.put, List.setIfInBounds_toArray, List.set_cons_succ, List.set_cons_zero]) | ((refine rd (by rfl) (ex_load1 29 Tryz.isAgg29 rfl rfl ((unhide LL).get 1 rfl) rfl) ?_); simp only [Act.put, List.setIfInBounds_toArray, List.set_cons_succ, List.set_cons_zero]) | ((refine rd (by rfl) (ex_eqI rfl rfl rfl hk) ?_); simp only [Act.put, List.setIfInBounds_toArray, List.set_cons_succ, List.set_cons_zero]) | ((refine rd (by rfl) (ex_eqI rfl rfl rfl hi) ?_); simp only [Act.put, List.setIfInBounds_toArray, List.set_cons_succ, List.set_cons_zero]) | ((refine rd (by rfl) (ex_eqB rfl rfl rfl hc) ?_); simp only [Act.put, List.setIfInBounds_toArray, List.set_cons_succ, List.set_cons_zero]) | ((refine rd (by rfl) (ex_eqS rfl rfl rfl hs) ?_); simp only [Act.put, List.setIfInBounds_toArray, List.set_cons_succ, List.set_cons_zero])))
          go_ret
          exact ⟨by simp, (unhide LL).fr.below⟩
        · go_enter Tryz.func45, Tryz.ntmps45
          go_wp2_with (first | go_skip | ((with_reducible show wpList _ _ _ _ _ _); first | ((refine bx 31 (VV.cs ⟨k, c, x, s, i⟩) (by rfl) rfl rfl rfl (Nat.succ_pos _) (unhide LL) ?_); intro X1 B1 hE1 L1 hb1; have hB1 := hide (Nat.le_trans (unhide LL).fr.size (Nat.le_of_eq hE1.symm)); replace LL := hide L1; clear L1 hb1 hE1; simp only [Act.put, List.setIfInBounds_toArray, List.set_cons_succ, List.set_cons_zero]) | ((refine bx 31 (VV.cs ⟨k2, c2, x2, s2, i2⟩) (by rfl) rfl rfl rfl (Nat.succ_pos _) (unhide LL) ?_); intro X2 B2 hE2 L2 hb2; have hB2 := hide (Nat.le_trans (unhide LL).fr.size (Nat.le_of_eq hE2.symm)); replace LL := hide L2; clear L2 hb2 hE2; simp only [Act.put, List.setIfInBounds_toArray, List.set_cons_succ, List.set_cons_zero]) | ((refine rd (by rfl) (ex_load1 3 Tryz.isAgg3 rfl rfl ((unhide LL).get 0 rfl) rfl) ?_); simp only [Act.put, List.setIfInBounds_toArray, List.set_cons_succ, List.set_cons_zero]) | ((refine rd (by rfl) (ex_load1 3 Tryz.isAgg3 rfl rfl ((unhide LL).get 1 rfl) rfl) ?_); simp only [Act.put, List.setIfInBounds_toArray, List.set_cons_succ, List.set_cons_zero]) | ((refine rd (by rfl) (ex_load1 4 Tryz.isAgg4 rfl rfl ((unhide LL).get 0 rfl) rfl) ?_); simp only [Act.put, List.setIfInBounds_toArray, List.set_cons_succ, List.set_cons_zero]) | ((refine rd (by rfl) (ex_load1 4 Tryz.isAgg4 rfl rfl ((unhide LL).get 1 rfl) rfl) ?_); simp only [Act.put, List.setIfInBounds_toArray, List.set_cons_succ, List.set_cons_zero]) | ((refine rd (by rfl) (ex_load1 9 Tryz.isAgg9 rfl rfl ((unhide LL).get 0 rfl) rfl) ?_); simp only [Act.put, List.setIfInBounds_toArray, List.set_cons_succ, List.set_cons_zero]) | ((refine rd (by rfl) (ex_load1 9 Tryz.isAgg9 rfl rfl ((unhide LL).get 1 rfl) rfl) ?_); simp only [Act.put, List.setIfInBounds_toArray, List.set_cons_succ, List.set_cons_zero]) | ((refine rd (by rfl) (ex_load1 29 Tryz.isAgg29 rfl rfl ((unhide LL).get 0 rfl) rfl) ?_); simp only [Act.put, List.setIfInBounds_toArray, List.set_cons_succ, List.set_cons_zero]) | ((refine rd (by rfl) (ex_load1 29 Tryz.isAgg29 rfl rfl ((unhide LL).get 1 rfl) rfl) ?_); simp only [Act.put, List.setIfInBounds_toArray, List.set_cons_succ, List.set_cons_zero]) | ((refine rd (by rfl) (ex_eqI rfl rfl rfl hk) ?_); simp only [Act.put, List.setIfInBounds_toArray, List.set_cons_succ, List.set_cons_zero]) | ((refine rd (by rfl) (ex_eqI rfl rfl rfl hi) ?_); simp only [Act.put, List.setIfInBounds_toArray, List.set_cons_succ, List.set_cons_zero]) | ((refine rd (by rfl) (ex_eqB rfl rfl rfl hc) ?_); simp only [Act.put, List.setIfInBounds_toArray, List.set_cons_succ, List.set_cons_zero]) | ((refine rd (by rfl) (ex_eqS rfl rfl rfl hs) ?_); simp only [Act.put, List.setIfInBounds_toArray, List.set_cons_succ, List.set_cons_zero])))
          refine (unhide HS _ (tabs_below (unhide HT) (unhide LL).fr.below)).mono ?_
          rintro e w' ⟨rfl, hb⟩
          replace LL := hide ((unhide LL).on hb)
          clear hb
          go_wp2_with (first | go_skip | ((with_reducible show wpList _ _ _ _ _ _); first | ((refine bx 31 (VV.cs ⟨k, c, x, s, i⟩) (by rfl) rfl rfl rfl (Nat.succ_pos _) (unhide LL) ?_); intro X1 B1 hE1 L1 hb1; have hB1 := hide (Nat.le_trans (unhide LL).fr.size (Nat.le_of_eq hE1.symm)); replace LL := hide L1; clear L1 hb1 hE1; simp only [Act.put, List.setIfInBounds_toArray, List.set_cons_succ, List.set_cons_zero]) | ((refine bx 31 (VV.cs ⟨k2, c2, x2, s2, i2⟩) (by rfl) rfl rfl rfl (Nat.succ_pos _) (unhide LL) ?_); intro X2 B2 hE2 L2 hb2; have hB2 := hide (Nat.le_trans (unhide LL).fr.size (Nat.le_of_eq hE2.symm)); replace LL := hide L2; clear L2 hb2 hE2; simp only [Act.put, List.setIfInBounds_toArray, List.set_cons_succ, List.set_cons_zero]) | ((refine rd (by rfl) (ex_load1 3 Tryz.isAgg3 rfl rfl ((unhide LL).get 0 rfl) rfl) ?_); simp only [Act.put, List.setIfInBounds_toArray, List.set_cons_succ, List.set_cons_zero]) | ((refine rd (by rfl) (ex_load1 3 Tryz.isAgg3 rfl rfl ((unhide LL).get 1 rfl) rfl) ?_); simp only [Act.put, List.setIfInBounds_toArray, List.set_cons_succ, List.set_cons_zero]) | ((refine rd (by rfl) (ex_load1 4 Tryz.isAgg4 rfl rfl ((unhide LL).get 0 rfl) rfl) ?_); simp only [Act.put, List.setIfInBounds_toArray, List.set_cons_succ, List.set_cons_zero]) | ((refine rd (by rfl) (ex_load1 4 Tryz.isAgg4 rfl rfl ((unhide LL).get 1 rfl) rfl) ?_); simp only [Act.put, List.setIfInBounds_toArray, List.set_cons_succ, List.set_cons_zero]) | ((refine rd (by rfl) (ex_load1 9 Tryz.isAgg9 rfl rfl ((unhide LL).get 0 rfl) rfl) ?_); simp only [Act.put, List.setIfInBounds_toArray, List.set_cons_succ, List.set_cons_zero]) | ((refine rd (by rfl) (ex_load1 9 Tryz.isAgg9 rfl rfl ((unhide LL).get 1 rfl) rfl) ?_); simp only [Act.put, List.setIfInBounds_toArray, List.set_cons_succ, List.set_cons_zero]) | ((refine rd (by rfl) (ex_load1 29 Tryz.isAgg29 rfl rfl ((unhide LL).get 0 rfl) rfl) ?_); simp only [Act.put, List.setIfInBounds_toArray, List.set_cons_succ, List.set_cons_zero]) | ((refine rd (by rfl) (ex_load1 29 Tryz.isAgg29 rfl rfl ((unhide LL).get 1 rfl) rfl) ?_); simp only [Act.put, List.setIfInBounds_toArray, List.set_cons_succ, List.set_cons_zero]) | ((refine rd (by rfl) (ex_eqI rfl rfl rfl hk) ?_); simp only [Act.put, List.setIfInBounds_toArray, List.set_cons_succ, List.set_cons_zero]) | ((refine rd (by rfl) (ex_eqI rfl rfl rfl hi) ?_); simp only [Act.put, List.setIfInBounds_toArray, List.set_cons_succ, List.set_cons_zero]) | ((refine rd (by rfl) (ex_eqB rfl rfl rfl hc) ?_); simp only [Act.put, List.setIfInBounds_toArray, List.set_cons_succ, List.set_cons_zero]) | ((refine rd (by rfl) (ex_eqS rfl rfl rfl hs) ?_); simp only [Act.put, List.setIfInBounds_toArray, List.set_cons_succ, List.set_cons_zero])))
          go_ret
          exact ⟨by simp, (unhide LL).fr.below⟩
end Go.Proofs.YtcflglloopgieaaGreatDoor
