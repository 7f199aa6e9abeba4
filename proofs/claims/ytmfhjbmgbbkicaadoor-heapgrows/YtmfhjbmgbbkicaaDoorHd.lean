import Derived.Test.YtmfhjbmgbbkicaaDoorHc
import Derived.RangeFuncNested
import Derived.RangeFuncBound
import Derived.RangeFuncCalls
import Derived.RangeFuncLeaves
import Derived.RangeFuncBox
import Derived.RangeFuncKeeps
import Derived.Shelf.Abstract
import Derived.Shelf.RegionOpen
import Derived.OwnWalkIn
import Derived.TacticsInMore
import Derived.LoopNIn
import Derived.LoopIn
import Derived.BigFrameIn
namespace Go.Proofs.YtmfhjbmgbbkicaaDoor
open Go Go.Proofs Go.Maps Go.RowKit FM
set_option linter.unusedSimpArgs false
set_option linter.unusedVariables false
set_option maxHeartbeats 1000000
section -- laws in the fence
variable {n : Nat} {md : Region.Mode} {ops : Array Oper} {Q : Exit → Act → World → Prop} {w : World} {fuel : Nat} {listed : Array Bool} {a : Act} {o : Oper}
theorem ip (i : Nat) (dst : Option Tmp) (v : Value) (hi : ops[i]? = some o) (hs : Region.noSelect ops = true) (hf : Region.free md ops listed i = true) (hr : (Region.ready md ops listed).contains i = true)
    (hQ : ∀ c a w, Q (.panic c) (a.put dst v) w → Q (.panic c) a w) (hd : o.dst = dst) (hw : Region.wanted o (yielded ops a.tmps) = true) (hy : ∀ w, (execOp a.eval o).run Tryd.prog w = .ok (.value v) w) (hab : ∀ w, o.about Tryd.prog w a.eval = none)
    (h : wpAnyIn Fence.wide n Tryd.prog md ops Q fuel (listed.setIfInBounds i true) (a.put dst v) w) : wpAnyIn Fence.wide n Tryd.prog md ops Q (fuel + 1) listed a w := by
  subst hd
  exact wpAnyIn_take rfl hi hs hf hr hQ ⟨Or.inl ⟨hw, hy⟩, hab⟩ h
theorem isk (i : Nat) (dst : Option Tmp) (hi : ops[i]? = some o) (hs : Region.noSelect ops = true) (hf : Region.free md ops listed i = true) (hr : (Region.ready md ops listed).contains i = true)
    (hQ : ∀ c a w, Q (.panic c) (a.put dst undef) w → Q (.panic c) a w) (hd : o.dst = dst) (hw : Region.wanted o (yielded ops a.tmps) = false) (hab : ∀ w, o.about Tryd.prog w a.eval = none)
    (h : wpAnyIn Fence.wide n Tryd.prog md ops Q fuel (listed.setIfInBounds i true) (a.put dst undef) w) : wpAnyIn Fence.wide n Tryd.prog md ops Q (fuel + 1) listed a w := by
  subst hd
  exact wpAnyIn_take rfl hi hs hf hr hQ ⟨Or.inr ⟨hw, rfl⟩, hab⟩ h
theorem ival (i : Nat) (dst : Option Tmp) {V : Value} {rs : List Nat} (hi : ops[i]? = some o) (hd : o.dst = dst) (hw : Region.wanted o (yielded ops a.tmps) = true) (he : (execOp a.eval o).run Tryd.prog w = .ok (.value V) w)
    (h : wpAnyIn Fence.wide n Tryd.prog md ops Q fuel (listed.setIfInBounds i true) (a.put dst V) w) (hs : AllReadyIn Fence.wide n Tryd.prog md ops Q fuel listed a w rs) : AllReadyIn Fence.wide n Tryd.prog md ops Q fuel listed a w (i :: rs) := by
  subst hd
  refine AllReadyIn.cons hi (fun K hK => ?_) hs
  rw [if_pos hw]
  refine ⟨fun _ _ => trivial, ?_⟩
  show o.uponIn Fence.wide n Tryd.prog a K Q ((execOp a.eval o).run Tryd.prog w)
  rw [he]
  exact hK _ _ h
theorem icall (i : Nat) (dst : Option Tmp) {f : FuncId} {args : Array Value} {R : Ending → World → Prop} {rs : List Nat} (hi : ops[i]? = some o) (hd : o.dst = dst) (hw : Region.wanted o (yielded ops a.tmps) = true) (he : (execOp a.eval o).run Tryd.prog w = .ok (.enter f args) w)
    (hC : Calls Tryd.prog f args w R) (h : ∀ e X, R e X → ∃ V, e = .returned V ∧ wpAnyIn Fence.wide n Tryd.prog md ops Q fuel (listed.setIfInBounds i true) (a.put dst V) X) (hs : AllReadyIn Fence.wide n Tryd.prog md ops Q fuel listed a w rs) : AllReadyIn Fence.wide n Tryd.prog md ops Q fuel listed a w (i :: rs) := by
  subst hd
  refine AllReadyIn.cons hi (fun K hK => ?_) hs
  rw [if_pos hw]
  refine ⟨fun _ _ => trivial, ?_⟩
  show o.uponIn Fence.wide n Tryd.prog a K Q ((execOp a.eval o).run Tryd.prog w)
  rw [he, Oper.uponIn_enter]
  refine ⟨(fun h => by cases h), (callsIn_wide.2 hC).mono ?_⟩
  intro e X hR
  obtain ⟨V, rfl, hV⟩ := h e X hR
  exact hK _ _ hV
theorem iround (i : Nat) (dst : Option Tmp) {l : Nat} {f : FuncId} {tmps : Array Value} {asg bd : Code} {R : Ending → World → Prop} {rs : List Nat} (hi : ops[i]? = some o) (hd : o.dst = dst) (hw : Region.wanted o (yielded ops a.tmps) = true) (he : (execOp a.eval o).run Tryd.prog w = .ok (.round l f tmps asg bd) w)
    (hC : RoundIn Fence.wide (n - 1) Tryd.prog l f tmps asg bd w R) (h : ∀ e X, R e X → ∃ V, e = .returned V ∧ wpAnyIn Fence.wide n Tryd.prog md ops Q fuel (listed.setIfInBounds i true) (a.put dst V) X) (hs : AllReadyIn Fence.wide n Tryd.prog md ops Q fuel listed a w rs) : AllReadyIn Fence.wide n Tryd.prog md ops Q fuel listed a w (i :: rs) := by
  subst hd
  refine AllReadyIn.cons hi (fun K hK => ?_) hs
  rw [if_pos hw]
  refine ⟨fun _ _ => trivial, ?_⟩
  show o.uponIn Fence.wide n Tryd.prog a K Q ((execOp a.eval o).run Tryd.prog w)
  rw [he, Oper.uponIn_round]
  refine ⟨(fun h => by cases h), hC.mono ?_⟩
  intro e X hR
  obtain ⟨V, rfl, hV⟩ := h e X hR
  exact hK _ _ hV
end
/-! The walk over a table with nothing in it. -/
theorem ex_len86 {o : Oper} {a : Act} {w : World} {x : Operand} {m : Nat} (ho : o.op = .call { callee := .builtin .len, args := #[x], argTypes := #[86] }) (hm : a.eval x = .map (some m)) (h : w.heap[m]? = some (Obj.map #[] 0)) : (execOp a.eval o).run Tryd.prog w = .ok (.value (.int .i64 0)) w := by
  have e : (Builtin.len_ #[86] o.type #[.map (some m)]).run Tryd.prog w = .ok (.int .i64 0) w := by
    simp [Builtin.len_, goInt, run_underlying Tryd.underlying86, go_sem, MapKept.run_getObj_map h, Result.andThen]
  simp [execOp, ho, resolve, invoke, builtin, hm, e, Result.andThen]
theorem grown_of_below {w w' : World} (h : Below w.heap.size w w') : w.grownBy w' none := ⟨h.os, h.tape, h.output, h.size, fun k hk _ => h.block k hk⟩
theorem len30 (t m : Nat) (w : World) (H : TB w t m) : Calls Tryd.prog 30 #[.pointer (some ⟨t, 0, none⟩)] w fun e w' => e = .returned (.int .i64 0) ∧ w' = w := by
  have HB := hide H.1
  have HM := hide H.2
  clear H
  unfold tcs at HB
  go_enter Tryd.func30, Tryd.ntmps30
  go_wp2_with (first | go_skip | ((with_reducible show wpList _ _ _ _ _ _); first | ((refine rd (by rfl) (ex_load1 86 Tryd.isAgg86 rfl rfl (unhide HB) rfl) ?_); simp only [Act.put, List.setIfInBounds_toArray, List.set_cons_succ, List.set_cons_zero]) | ((refine rd (by rfl) (ex_len86 rfl rfl (unhide HM)) ?_); simp only [Act.put, List.setIfInBounds_toArray, List.set_cons_succ, List.set_cons_zero])))
  go_ret
  exact ⟨rfl, rfl⟩
theorem bs37 (y : Nat) (w : World) :
    Calls Tryd.prog 37 #[.slice none 0 0, .int .u64 y, .func (.func 38) #[] #[]] w fun e w' => ∃ f : Value, e = .returned (.tuple #[.int .i64 0, f]) ∧ w' = w := by
  go_enter Tryd.func37, Tryd.ntmps37
  go_wp2_with fail
  go_loopg [9, 10, 11] 0 (fun gm s9 s10 s11 wr => s9 = .int .i64 0 ∧ s10 = .int .i64 0 ∧ wr = w)
  case atStart => exact ⟨rfl, rfl, rfl⟩
  case round =>
    obtain ⟨rfl, rfl, rfl⟩ := hrel
    go_wp2
    go_ret2
    exact ⟨_, rfl, rfl⟩
theorem slice87_nil (w : World) : (Instr.sliceAt 87 (.slice none 0 0) (some (.int .i64 0)) none none).run Tryd.prog w = .ok (.slice none 0 0) w := by kernel_rfl
theorem ex_slice87 {o : Oper} {a : Act} {w : World} {x ix : Operand} (ho : o.op = .slice 87 x (some ix) none none) (hx : a.eval x = .slice none 0 0) (hix : a.eval ix = .int .i64 0) : (execOp a.eval o).run Tryd.prog w = .ok (.value (.slice none 0 0)) w := by
  have h := slice87_nil w
  unfold execOp
  simp only [ho, hx]
  simp [hix, h]
set_option maxRecDepth 100000 in
theorem next34 (t m : Nat) (w : World) (H : TB w t m) : Calls Tryd.prog 34 #[.pointer (some ⟨t, 0, none⟩), .int .u64 0] w fun e w' => e = .returned (.pointer none) ∧ w' = w := by
  have HB := hide H.1
  unfold tcs at HB
  clear H
  have HS := hide (bs37 1 w)
  go_enter Tryd.func34, Tryd.ntmps34
  go_wp2_with (first | go_skip | ((with_reducible show wpList _ _ _ _ _ _); first | ((refine rd (by rfl) (ex_load1 87 Tryd.isAgg87 rfl rfl (unhide HB) rfl) ?_); simp only [Act.put, List.setIfInBounds_toArray, List.set_cons_succ, List.set_cons_zero])))
  refine (unhide HS).mono ?_
  rintro _ w1 ⟨f, rfl, rfl⟩
  go_wp2_with (first | go_skip | ((with_reducible show wpList _ _ _ _ _ _); first | ((refine rd (by rfl) (ex_slice87 rfl rfl rfl) ?_); simp only [Act.put, List.setIfInBounds_toArray, List.set_cons_succ, List.set_cons_zero]) | ((refine rd (by rfl) (ex_load1 87 Tryd.isAgg87 rfl rfl (unhide HB) rfl) ?_); simp only [Act.put, List.setIfInBounds_toArray, List.set_cons_succ, List.set_cons_zero])))
  go_loopg [26, 8] 0 (fun gm s26 s8 wr => s26 = .int .i64 0 ∧ wr = w1)
  case atStart => exact ⟨rfl, rfl⟩
  case round =>
    obtain ⟨rfl, rfl⟩ := hrel
    go_wp2
    go_ret
    exact ⟨rfl, rfl⟩
theorem each31 (t : Nat) (w : World) : Calls Tryd.prog 31 #[.pointer (some ⟨t, 0, none⟩)] w fun e w' => e = .returned (.func (.func 33) #[] #[.pointer (some ⟨w.heap.size, 0, none⟩)]) ∧ w' = w.alloc (Obj.cells #[.pointer (some ⟨t, 0, none⟩)] 76) := by
  go_enter Tryd.func31, Tryd.ntmps31
  go_wp2
  go_ret
  exact ⟨rfl, rfl⟩
def encE (x : Empty) : Array Value := x.elim
set_option maxRecDepth 100000 in
theorem each33 (n l Bn t m : Nat) (hn : 1 ≤ n) (J : List Empty → World → Prop) (W : World) (hAb : AbidesFrom W.heap.size J) (H : TB W t m) (hBn : W.cell? ⟨Bn, 0, none⟩ = some (.pointer (some ⟨t, 0, none⟩))) (h0 : J [] W) : CallsIn Fence.wide n Tryd.prog 33 #[.func (.yield l) #[] #[], .pointer (some ⟨Bn, 0, none⟩)] W fun e W' => (∃ v, e = .returned v) ∧ J [] W' := by
  have HN := hide (next34 t m W H)
  refine callsIn_of_wp Tryd.func33 rfl trivial ?_ rfl
  simp only [Tryd.ntmps33, List.size_toArray, List.length_cons, List.length_nil, Nat.reduceAdd, Nat.reduceSub, Array.replicate_succ, Array.replicate_zero, List.push_toArray, List.append_toArray, List.nil_append, List.cons_append]
  gi_wp2_with fail
  refine ⟨trivial, (callsIn_wide.2 (unhide HN)).mono ?_⟩
  rintro e w1 ⟨rfl, rfl⟩
  gi_wp2
  gi_loopw [3] (fun s3 wr => s3 = .pointer none ∧ Hid (wr = w1)) (fun s3 _ => 0)
  case atStart => exact ⟨rfl, hide rfl⟩
  case round =>
    obtain ⟨rfl, HW⟩ := hrel
    obtain rfl := unhide HW
    have HAb := hide hAb
    have HJ := hide h0
    clear hAb h0 HN hBn H HW
    gi_wp2
    refine wpIn_region_any (by kernel_rfl) ?_
    refine ip 0 (some 6) (.pointer none) rfl (by kernel_rfl) (by kernel_rfl) (by kernel_rfl) (fun _ _ _ h => h) (by kernel_rfl) (by kernel_rfl) (fun _ => by kernel_rfl) (fun _ => by kernel_rfl) ?_
    simp only [Act.put, List.setIfInBounds_toArray, List.set_cons_succ, List.set_cons_zero]
    refine ip 1 (some 7) (.bool false) rfl (by kernel_rfl) (by kernel_rfl) (by kernel_rfl) (fun _ _ _ h => h) (by kernel_rfl) (by kernel_rfl) (fun _ => by kernel_rfl) (fun _ => by kernel_rfl) ?_
    simp only [Act.put, List.setIfInBounds_toArray, List.set_cons_succ, List.set_cons_zero]
    refine ip 2 (some 8) (.bool false) rfl (by kernel_rfl) (by kernel_rfl) (by kernel_rfl) (fun _ _ _ h => h) (by kernel_rfl) (by kernel_rfl) (fun _ => by kernel_rfl) (fun _ => by kernel_rfl) ?_
    simp only [Act.put, List.setIfInBounds_toArray, List.set_cons_succ, List.set_cons_zero]
    refine isk 3 (some 9) rfl (by kernel_rfl) (by kernel_rfl) (by kernel_rfl) (fun _ _ _ h => h) (by kernel_rfl) (by kernel_rfl) (fun _ => by kernel_rfl) ?_
    simp only [Act.put, List.setIfInBounds_toArray, List.set_cons_succ, List.set_cons_zero]
    refine isk 4 (some 10) rfl (by kernel_rfl) (by kernel_rfl) (by kernel_rfl) (fun _ _ _ h => h) (by kernel_rfl) (by kernel_rfl) (fun _ => by kernel_rfl) ?_
    simp only [Act.put, List.setIfInBounds_toArray, List.set_cons_succ, List.set_cons_zero]
    refine isk 5 (some 11) rfl (by kernel_rfl) (by kernel_rfl) (by kernel_rfl) (fun _ _ _ h => h) (by kernel_rfl) (by kernel_rfl) (fun _ => by kernel_rfl) ?_
    simp only [Act.put, List.setIfInBounds_toArray, List.set_cons_succ, List.set_cons_zero]
    refine isk 6 (some 12) rfl (by kernel_rfl) (by kernel_rfl) (by kernel_rfl) (fun _ _ _ h => h) (by kernel_rfl) (by kernel_rfl) (fun _ => by kernel_rfl) ?_
    simp only [Act.put, List.setIfInBounds_toArray, List.set_cons_succ, List.set_cons_zero]
    refine isk 7 (some 13) rfl (by kernel_rfl) (by kernel_rfl) (by kernel_rfl) (fun _ _ _ h => h) (by kernel_rfl) (by kernel_rfl) (fun _ => by kernel_rfl) ?_
    simp only [Act.put, List.setIfInBounds_toArray, List.set_cons_succ, List.set_cons_zero]
    refine isk 8 (some 14) rfl (by kernel_rfl) (by kernel_rfl) (by kernel_rfl) (fun _ _ _ h => h) (by kernel_rfl) (by kernel_rfl) (fun _ => by kernel_rfl) ?_
    simp only [Act.put, List.setIfInBounds_toArray, List.set_cons_succ, List.set_cons_zero]
    refine isk 9 (some 15) rfl (by kernel_rfl) (by kernel_rfl) (by kernel_rfl) (fun _ _ _ h => h) (by kernel_rfl) (by kernel_rfl) (fun _ => by kernel_rfl) ?_
    simp only [Act.put, List.setIfInBounds_toArray, List.set_cons_succ, List.set_cons_zero]
    refine isk 10 (some 16) rfl (by kernel_rfl) (by kernel_rfl) (by kernel_rfl) (fun _ _ _ h => h) (by kernel_rfl) (by kernel_rfl) (fun _ => by kernel_rfl) ?_
    simp only [Act.put, List.setIfInBounds_toArray, List.set_cons_succ, List.set_cons_zero]
    refine isk 11 (some 17) rfl (by kernel_rfl) (by kernel_rfl) (by kernel_rfl) (fun _ _ _ h => h) (by kernel_rfl) (by kernel_rfl) (fun _ => by kernel_rfl) ?_
    simp only [Act.put, List.setIfInBounds_toArray, List.set_cons_succ, List.set_cons_zero]
    refine isk 12 (some 18) rfl (by kernel_rfl) (by kernel_rfl) (by kernel_rfl) (fun _ _ _ h => h) (by kernel_rfl) (by kernel_rfl) (fun _ => by kernel_rfl) ?_
    simp only [Act.put, List.setIfInBounds_toArray, List.set_cons_succ, List.set_cons_zero]
    refine isk 13 (some 19) rfl (by kernel_rfl) (by kernel_rfl) (by kernel_rfl) (fun _ _ _ h => h) (by kernel_rfl) (by kernel_rfl) (fun _ => by kernel_rfl) ?_
    simp only [Act.put, List.setIfInBounds_toArray, List.set_cons_succ, List.set_cons_zero]
    refine isk 14 (some 20) rfl (by kernel_rfl) (by kernel_rfl) (by kernel_rfl) (fun _ _ _ h => h) (by kernel_rfl) (by kernel_rfl) (fun _ => by kernel_rfl) ?_
    simp only [Act.put, List.setIfInBounds_toArray, List.set_cons_succ, List.set_cons_zero]
    refine ip 15 (some 21) (.bool false) rfl (by kernel_rfl) (by kernel_rfl) (by kernel_rfl) (fun _ _ _ h => h) (by kernel_rfl) (by kernel_rfl) (fun _ => by kernel_rfl) (fun _ => by kernel_rfl) ?_
    simp only [Act.put, List.setIfInBounds_toArray, List.set_cons_succ, List.set_cons_zero]
    refine wpAnyIn_done (by kernel_rfl) ?_ _
    try simp only [Act.put, List.setIfInBounds_toArray, List.set_cons_succ, List.set_cons_zero]
    gi_wp2
    go_end0
    exact ⟨⟨_, rfl⟩, (unhide HAb) [] wr wr.drew none (unhide HJ) (grown_of_below ((Below.refl _ _).drew)) (fun r e => by cases e)⟩
theorem each_stops (n : Nat) (hn : 1 ≤ n) (Bn t m : Nat) (w : World) (H : TB w t m) (hBs : Bn < w.heap.size) (hBn : w.cell? ⟨Bn, 0, none⟩ = some (.pointer (some ⟨t, 0, none⟩))) :
    SeqStopsK Fence.wide n Tryd.prog 33 #[.pointer (some ⟨Bn, 0, none⟩)] encE (fun _ _ => True) (fun ys => ys = []) (fun _ => False) 0 w := by
  intro l J Jx W hW hJ hJx hY h0
  refine (each33 n l Bn t m hn J W hJ (H.fr (Fr.of_below hW [])) ((hW.cell (p := ⟨Bn, 0, none⟩) hBs).trans hBn) h0).mono ?_
  rintro e X ⟨h1, h2⟩
  exact ⟨h1, .inl ⟨[], rfl, h2⟩⟩
theorem boxed_own {β : Type} (B : Nat) (t : TypeId) (v : Value) : Own (fun (_ : β) W => Boxed W B t v) := by
  intro s X Y row hv hg hrow
  refine hv.kept hg (fun e' => ?_)
  obtain ⟨o, ho, hc⟩ := hrow B e'.symm
  rw [show X.heap[B]? = _ from hv] at ho; cases ho; cases hc
theorem info64w : (Tryd.prog.info? 64).map (fun i => (i.size, i.bytes)) = some (20, 192) := by kernel_rfl
end Go.Proofs.YtmfhjbmgbbkicaaDoor
