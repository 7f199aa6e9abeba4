import Derived.Test.YtmgflhhealdfoaaGreatDoorQw
import Derived.RangeFuncKeeps
import Derived.BigFrameIn
set_option linter.all false
namespace Go.Proofs.YtmgflhhealdfoaaGreatDoor
set_option maxHeartbeats 2000000
section
open Go Go.Proofs Go.Maps Go.RowKit
theorem from_cons (m : Nat) (r : RR) : ∀ (l : List RR), l.Pairwise (fun a b => a.n < b.n) → l.find? (after m) = some r → l.filter (after m) = r :: l.filter (after r.n)
  | [], _, h => by cases h
  | q :: t, hp, h => by
    obtain ⟨h1, h2⟩ := List.pairwise_cons.1 hp
    by_cases hq : after m q = true
    · rw [List.find?_cons_of_pos hq] at h
      obtain rfl := Option.some.inj h
      have e0 : after q.n q = false := by simp [after]
      rw [List.filter_cons_of_pos hq, List.filter_cons_of_neg (by simp [e0])]
      congr 1
      apply List.filter_congr
      intro x hx
      have h3 := h1 x hx
      have h4 : m < q.n := by
        unfold after at hq
        simp at hq
        exact hq.1
      simp only [after]
      rw [decide_eq_true (by omega : m < x.n), decide_eq_true h3]
    · rw [List.find?_cons_of_neg hq] at h
      have hr : r ∈ t := List.mem_of_find?_eq_some h
      have h3 := h1 r hr
      rw [List.filter_cons_of_neg hq, from_cons m r t h2 h, List.filter_cons_of_neg (by simp [after]; omega)]
theorem from_nil (m : Nat) (l : List RR) (h : l.find? (after m) = none) : l.filter (after m) = [] := by
  rw [List.filter_eq_nil_iff]
  exact List.find?_eq_none.1 h
theorem from_zero {T : TT} {W : World} (hT : T.Is W) : T.rows.filter (after 0) = T.live := by
  unfold TT.live
  apply List.filter_congr
  intro r hr
  have := (hT.num r hr).1
  simp only [after]
  rw [decide_eq_true (by omega : 0 < r.n)]
  simp
theorem next_mem {T : TT} {m : Nat} {r : RR} (h : T.next m = some r) : r ∈ T.rows ∧ m < r.n ∧ r.gone = false := by
  have h1 := List.mem_of_find?_eq_some h
  have h2 := List.find?_some h
  simp [after] at h2
  exact ⟨h1, h2⟩
/-- What a row is to those who walk. -/
def RR.pr (r : RR) : KK × DD := (r.k, r.d)
def encP (x : KK × DD) : Array Value := #[x.1.agg, x.2.agg]
/-- How many are still to come: by what the walk holds. -/
def left (T : TT) : Value → Nat
  | .pointer (some a) => (match T.rows.find? (fun r => r.b == a.block) with
    | some r => (T.rows.filter (after r.n)).length + 1
    | none => 0)
  | _ => 0
theorem each41 (T : TT) (w : World) : Calls Tryz.prog 78 #[.pointer (some ⟨T.t, 0, none⟩)] w fun e w' => e = .returned (.func (.func 86) #[] #[.pointer (some ⟨w.heap.size, 0, none⟩)]) ∧ w' = w.alloc (Obj.cells #[.pointer (some ⟨T.t, 0, none⟩)] 97) := by
  go_enter Tryz.func78, Tryz.ntmps78
  go_wp2
  go_ret
  exact ⟨rfl, rfl⟩
section -- laws in the fence
variable {n : Nat} {md : Region.Mode} {ops : Array Oper} {Q : Exit → Act → World → Prop} {w : World} {fuel : Nat} {listed : Array Bool} {a : Act} {o : Oper}
theorem ip (i : Nat) (dst : Option Tmp) (v : Value) (hi : ops[i]? = some o) (hs : Region.noSelect ops = true) (hf : Region.free md ops listed i = true) (hr : (Region.ready md ops listed).contains i = true)
    (hQ : ∀ c a w, Q (.panic c) (a.put dst v) w → Q (.panic c) a w) (hd : o.dst = dst) (hw : Region.wanted o (yielded ops a.tmps) = true) (hy : ∀ w, (execOp a.eval o).run Tryz.prog w = .ok (.value v) w) (hab : ∀ w, o.about Tryz.prog w a.eval = none)
    (h : wpAnyIn Fence.wide n Tryz.prog md ops Q fuel (listed.setIfInBounds i true) (a.put dst v) w) : wpAnyIn Fence.wide n Tryz.prog md ops Q (fuel + 1) listed a w := by
  subst hd
  exact wpAnyIn_take rfl hi hs hf hr hQ ⟨Or.inl ⟨hw, hy⟩, hab⟩ h
theorem isk (i : Nat) (dst : Option Tmp) (hi : ops[i]? = some o) (hs : Region.noSelect ops = true) (hf : Region.free md ops listed i = true) (hr : (Region.ready md ops listed).contains i = true)
    (hQ : ∀ c a w, Q (.panic c) (a.put dst undef) w → Q (.panic c) a w) (hd : o.dst = dst) (hw : Region.wanted o (yielded ops a.tmps) = false) (hab : ∀ w, o.about Tryz.prog w a.eval = none)
    (h : wpAnyIn Fence.wide n Tryz.prog md ops Q fuel (listed.setIfInBounds i true) (a.put dst undef) w) : wpAnyIn Fence.wide n Tryz.prog md ops Q (fuel + 1) listed a w := by
  subst hd
  exact wpAnyIn_take rfl hi hs hf hr hQ ⟨Or.inr ⟨hw, rfl⟩, hab⟩ h
theorem ival (i : Nat) (dst : Option Tmp) {V : Value} {rs : List Nat} (hi : ops[i]? = some o) (hd : o.dst = dst) (hw : Region.wanted o (yielded ops a.tmps) = true) (he : (execOp a.eval o).run Tryz.prog w = .ok (.value V) w)
    (h : wpAnyIn Fence.wide n Tryz.prog md ops Q fuel (listed.setIfInBounds i true) (a.put dst V) w) (hs : AllReadyIn Fence.wide n Tryz.prog md ops Q fuel listed a w rs) : AllReadyIn Fence.wide n Tryz.prog md ops Q fuel listed a w (i :: rs) := by
  subst hd
  refine AllReadyIn.cons hi (fun K hK => ?_) hs
  rw [if_pos hw]
  refine ⟨fun _ _ => trivial, ?_⟩
  show o.uponIn Fence.wide n Tryz.prog a K Q ((execOp a.eval o).run Tryz.prog w)
  rw [he]
  exact hK _ _ h
theorem icall (i : Nat) (dst : Option Tmp) {f : FuncId} {args : Array Value} {R : Ending → World → Prop} {rs : List Nat} (hi : ops[i]? = some o) (hd : o.dst = dst) (hw : Region.wanted o (yielded ops a.tmps) = true) (he : (execOp a.eval o).run Tryz.prog w = .ok (.enter f args) w)
    (hC : Calls Tryz.prog f args w R) (h : ∀ e X, R e X → ∃ V, e = .returned V ∧ wpAnyIn Fence.wide n Tryz.prog md ops Q fuel (listed.setIfInBounds i true) (a.put dst V) X) (hs : AllReadyIn Fence.wide n Tryz.prog md ops Q fuel listed a w rs) : AllReadyIn Fence.wide n Tryz.prog md ops Q fuel listed a w (i :: rs) := by
  subst hd
  refine AllReadyIn.cons hi (fun K hK => ?_) hs
  rw [if_pos hw]
  refine ⟨fun _ _ => trivial, ?_⟩
  show o.uponIn Fence.wide n Tryz.prog a K Q ((execOp a.eval o).run Tryz.prog w)
  rw [he, Oper.uponIn_enter]
  refine ⟨(fun h => by cases h), (callsIn_wide.2 hC).mono ?_⟩
  intro e X hR
  obtain ⟨V, rfl, hV⟩ := h e X hR
  exact hK _ _ hV
theorem iround (i : Nat) (dst : Option Tmp) {l : Nat} {f : FuncId} {tmps : Array Value} {asg bd : Code} {R : Ending → World → Prop} {rs : List Nat} (hi : ops[i]? = some o) (hd : o.dst = dst) (hw : Region.wanted o (yielded ops a.tmps) = true) (he : (execOp a.eval o).run Tryz.prog w = .ok (.round l f tmps asg bd) w)
    (hC : RoundIn Fence.wide (n - 1) Tryz.prog l f tmps asg bd w R) (h : ∀ e X, R e X → ∃ V, e = .returned V ∧ wpAnyIn Fence.wide n Tryz.prog md ops Q fuel (listed.setIfInBounds i true) (a.put dst V) X) (hs : AllReadyIn Fence.wide n Tryz.prog md ops Q fuel listed a w rs) : AllReadyIn Fence.wide n Tryz.prog md ops Q fuel listed a w (i :: rs) := by
  subst hd
  refine AllReadyIn.cons hi (fun K hK => ?_) hs
  rw [if_pos hw]
  refine ⟨fun _ _ => trivial, ?_⟩
  show o.uponIn Fence.wide n Tryz.prog a K Q ((execOp a.eval o).run Tryz.prog w)
  rw [he, Oper.uponIn_round]
  refine ⟨(fun h => by cases h), hC.mono ?_⟩
  intro e X hR
  obtain ⟨V, rfl, hV⟩ := h e X hR
  exact hK _ _ hV
end
/-- What lies below n₀, and block Bn, is as it was. -/
def Kb (n₀ Bn : Nat) (W W' : World) : Prop := Below n₀ W W' ∧ W'.heap[Bn]? = W.heap[Bn]?
theorem left_row {T : TT} {W : World} (hT : T.Is W) {r : RR} (hr : r ∈ T.rows) : left T (.pointer (some ⟨r.b, 0, none⟩)) = (T.rows.filter (after r.n)).length + 1 := by
  have hnd := hT.nd
  simp only [TT.blocks, List.nodup_cons, List.mem_cons, List.mem_append, List.nodup_append, not_or] at hnd
  obtain ⟨-, -, -, h7, -⟩ := hnd
  have e : T.rows.find? (fun q => q.b == r.b) = some r := by
    cases h : T.rows.find? (fun q => q.b == r.b) with
    | none =>
      have := List.find?_eq_none.1 h r hr
      simp at this
    | some q =>
      have h1 := List.mem_of_find?_eq_some h
      have h2 := List.find?_some h
      have e2 : q.b = r.b := by simpa using h2
      rcases List.getElem?_of_mem h1 with ⟨i, hi⟩
      rcases List.getElem?_of_mem hr with ⟨j, hj⟩
      have e3 : (T.rows.map (·.b))[i]? = some r.b := by simp [hi, e2]
      have e4 : (T.rows.map (·.b))[j]? = some r.b := by simp [hj]
      have hij := (List.getElem?_inj (by simpa using (List.getElem?_eq_some_iff.1 hi).1) h7).1 (e3.trans e4.symm)
      subst hij
      rw [hi] at hj
      exact hj
  simp only [left, e]
theorem left_next {T : TT} {W : World} (hT : T.Is W) {m : Nat} : left T (pv ((T.next m).map (·.b))) = (T.rows.filter (after m)).length := by
  cases h : T.next m with
  | none => rw [from_nil m _ h]; rfl
  | some r =>
    rw [from_cons m r T.rows hT.rise h]
    exact left_row hT (next_mem h).1
theorem each_in (n : Nat) (hn : 1 ≤ n) (l Bn n₀ : Nat) (T : TT) (J Jx : List (KK × DD) → World → Prop)
    (W : World) (hAb : AbidesFrom W.heap.size J) (hT : T.Is W) (hlast : T.last < 4000000) (hlt : ∀ b ∈ T.blocks, b < n₀)
    (hY : ∀ pre x W, J pre W → pre.length < T.live.length → YieldAt Fence.wide (n - 1) Tryz.prog l (encP x) W fun e W' =>
      (e = .returned (.bool true) ∧ J (pre ++ [x]) W' ∧ Kb n₀ Bn W W') ∨ (e = .returned (.bool false) ∧ Jx (pre ++ [x]) W'))
    (hBn : W.cell? ⟨Bn, 0, none⟩ = some (.pointer (some ⟨T.t, 0, none⟩))) (h0 : J [] W) (hn₀ : n₀ ≤ W.heap.size) :
    CallsIn Fence.wide n Tryz.prog 86 #[.func (.yield l) #[] #[], .pointer (some ⟨Bn, 0, none⟩)] W fun e W' => (∃ v, e = .returned v) ∧
      ((∃ ys, ys = T.live.map RR.pr ∧ J ys W') ∨ (∃ pre, pre <+: T.live.map RR.pr ∧ Jx pre W')) := by
  have HN := hide (next50 T 0 W hT (by omega) (by omega))
  refine callsIn_of_wp Tryz.func86 rfl trivial ?_ rfl
  simp only [Tryz.ntmps86, List.size_toArray, List.length_cons, List.length_nil, Nat.reduceAdd, Nat.reduceSub, Array.replicate_succ, Array.replicate_zero, List.push_toArray, List.append_toArray, List.nil_append, List.cons_append]
  gi_wp2_with fail
  refine ⟨trivial, (callsIn_wide.2 (unhide HN)).mono ?_⟩
  rintro e w1 ⟨rfl, rfl⟩
  gi_wp2
  gi_loopw [3] (fun s3 wr => ∃ (pre : List (KK × DD)) (m : Nat), s3 = pv ((T.next m).map (·.b)) ∧ Hid (T.live.map RR.pr = pre ++ (T.rows.filter (after m)).map RR.pr) ∧ Hid (J pre wr) ∧ Hid (T.Is wr) ∧ wr.cell? ⟨Bn, 0, none⟩ = some (.pointer (some ⟨T.t, 0, none⟩)) ∧ Hid (n₀ ≤ wr.heap.size ∧ w1.heap.size ≤ wr.heap.size ∧ m ≤ T.last)) (fun s3 _ => left T s3)
  case atStart =>
    exact ⟨[], 0, rfl, hide (by rw [from_zero hT]; rfl), hide h0, hide hT, hBn, hide ⟨hn₀, Nat.le_refl _, Nat.zero_le _⟩⟩
  case round =>
    obtain ⟨pre, m, rfl, HX, HJ, HT, hc, HZ⟩ := hrel
    have HY := hide hY
    have HAb := hide hAb
    clear hY hAb h0 hBn hT HN
    cases hnx : T.next m with
    | none =>
      rw [show pv ((none : Option RR).map (·.b)) = .pointer none from rfl]
      gi_wp2
      refine wpIn_region_any (by kernel_rfl) ?_
      refine ip 0 (some 6) (.pointer none) rfl (by kernel_rfl) (by kernel_rfl) (by kernel_rfl) (fun _ _ _ h => h) (by kernel_rfl) (by kernel_rfl) (fun _ => by kernel_rfl) (fun _ => by kernel_rfl) ?_
      simp only [Act.put, List.setIfInBounds_toArray, List.set_cons_succ, List.set_cons_zero]
      refine ip 1 (some 7) (.bool false) rfl (by kernel_rfl) (by kernel_rfl) (by kernel_rfl) (fun _ _ _ h => h) (by kernel_rfl) (by kernel_rfl) (fun _ => by kernel_rfl) (fun _ => by kernel_rfl) ?_
      simp only [Act.put, List.setIfInBounds_toArray, List.set_cons_succ, List.set_cons_zero]
      refine ip 2 (some 8) (.bool false) rfl (by kernel_rfl) (by kernel_rfl) (by kernel_rfl) (fun _ _ _ h => h) (by kernel_rfl) (by kernel_rfl) (fun _ => by kernel_rfl) (fun _ => by kernel_rfl) ?_
      simp only [Act.put, List.setIfInBounds_toArray, List.set_cons_succ, List.set_cons_zero]
      refine isk 3 (some 9) rfl (by kernel_rfl) (by kernel_rfl) (by kernel_rfl) (fun _ _ _ h => h) (by kernel_rfl) (by kernel_rfl) (fun _ => by kernel_rfl) ?_
      simp only [Act.put, List.setIfInBounds_toArray, List.set_cons_succ, List.set_cons_zero]
      refine isk 4 (some 10) rfl (by kernel_rfl) (by kernel_rfl) (by kernel_rfl) (fun _ _ _ h => h) (by kernel_rfl) (by kernel_rfl) (fun _ => by kernel_rfl) ?_
      simp only [Act.put, List.setIfInBounds_toArray, List.set_cons_succ, List.set_cons_zero]
      refine isk 5 (some 11) rfl (by kernel_rfl) (by kernel_rfl) (by kernel_rfl) (fun _ _ _ h => h) (by kernel_rfl) (by kernel_rfl) (fun _ => by kernel_rfl) ?_
      simp only [Act.put, List.setIfInBounds_toArray, List.set_cons_succ, List.set_cons_zero]
      refine isk 6 (some 12) rfl (by kernel_rfl) (by kernel_rfl) (by kernel_rfl) (fun _ _ _ h => h) (by kernel_rfl) (by kernel_rfl) (fun _ => by kernel_rfl) ?_
      simp only [Act.put, List.setIfInBounds_toArray, List.set_cons_succ, List.set_cons_zero]
      refine isk 7 (some 13) rfl (by kernel_rfl) (by kernel_rfl) (by kernel_rfl) (fun _ _ _ h => h) (by kernel_rfl) (by kernel_rfl) (fun _ => by kernel_rfl) ?_
      simp only [Act.put, List.setIfInBounds_toArray, List.set_cons_succ, List.set_cons_zero]
      refine isk 8 (some 14) rfl (by kernel_rfl) (by kernel_rfl) (by kernel_rfl) (fun _ _ _ h => h) (by kernel_rfl) (by kernel_rfl) (fun _ => by kernel_rfl) ?_
      simp only [Act.put, List.setIfInBounds_toArray, List.set_cons_succ, List.set_cons_zero]
      refine isk 9 (some 15) rfl (by kernel_rfl) (by kernel_rfl) (by kernel_rfl) (fun _ _ _ h => h) (by kernel_rfl) (by kernel_rfl) (fun _ => by kernel_rfl) ?_
      simp only [Act.put, List.setIfInBounds_toArray, List.set_cons_succ, List.set_cons_zero]
      refine isk 10 (some 16) rfl (by kernel_rfl) (by kernel_rfl) (by kernel_rfl) (fun _ _ _ h => h) (by kernel_rfl) (by kernel_rfl) (fun _ => by kernel_rfl) ?_
      simp only [Act.put, List.setIfInBounds_toArray, List.set_cons_succ, List.set_cons_zero]
      refine isk 11 (some 17) rfl (by kernel_rfl) (by kernel_rfl) (by kernel_rfl) (fun _ _ _ h => h) (by kernel_rfl) (by kernel_rfl) (fun _ => by kernel_rfl) ?_
      simp only [Act.put, List.setIfInBounds_toArray, List.set_cons_succ, List.set_cons_zero]
      refine isk 12 (some 18) rfl (by kernel_rfl) (by kernel_rfl) (by kernel_rfl) (fun _ _ _ h => h) (by kernel_rfl) (by kernel_rfl) (fun _ => by kernel_rfl) ?_
      simp only [Act.put, List.setIfInBounds_toArray, List.set_cons_succ, List.set_cons_zero]
      refine isk 13 (some 19) rfl (by kernel_rfl) (by kernel_rfl) (by kernel_rfl) (fun _ _ _ h => h) (by kernel_rfl) (by kernel_rfl) (fun _ => by kernel_rfl) ?_
      simp only [Act.put, List.setIfInBounds_toArray, List.set_cons_succ, List.set_cons_zero]
      refine isk 14 (some 20) rfl (by kernel_rfl) (by kernel_rfl) (by kernel_rfl) (fun _ _ _ h => h) (by kernel_rfl) (by kernel_rfl) (fun _ => by kernel_rfl) ?_
      simp only [Act.put, List.setIfInBounds_toArray, List.set_cons_succ, List.set_cons_zero]
      refine ip 15 (some 21) (.bool false) rfl (by kernel_rfl) (by kernel_rfl) (by kernel_rfl) (fun _ _ _ h => h) (by kernel_rfl) (by kernel_rfl) (fun _ => by kernel_rfl) (fun _ => by kernel_rfl) ?_
      simp only [Act.put, List.setIfInBounds_toArray, List.set_cons_succ, List.set_cons_zero]
      refine wpAnyIn_done (by kernel_rfl) ?_ _
      try simp only [Act.put, List.setIfInBounds_toArray, List.set_cons_succ, List.set_cons_zero]
      gi_wp2
      go_end0
      refine ⟨⟨_, rfl⟩, .inl ⟨pre, ?_, ?_⟩⟩
      · rw [unhide HX, from_nil m _ hnx]; simp
      · exact (unhide HAb) pre wr wr.drew none (unhide HJ) (grown_of_below ((Below.refl _ _).drew)) (fun r e => by cases e)
    | some r =>
      rw [show pv ((some r : Option RR).map (·.b)) = .pointer (some ⟨r.b, 0, none⟩) from rfl]
      obtain ⟨hrm, hrn, hrg⟩ := next_mem hnx
      have HR := hide ((unhide HT).rows r hrm)
      have hfc := from_cons m r T.rows (unhide HT).rise hnx
      have hlv : T.live.length = pre.length + ((T.rows.filter (after r.n)).length + 1) := by
        have := congrArg List.length (unhide HX)
        rw [hfc] at this
        simpa using this
      have hJ1 := (unhide HAb) pre wr wr.drew none (unhide HJ) (grown_of_below ((Below.refl _ _).drew)) (fun r e => by cases e)
      obtain ⟨fn, tmps, asg, bd, hy, hRd⟩ := (unhide HY) pre r.pr wr.drew hJ1 (by omega)
      have HRd := hide hRd
      have Hy : Hid ((Instr.yield l #[r.k.agg, r.d.agg]).run Tryz.prog wr.drew = .ok (.round l fn tmps asg bd) wr.drew) := hide hy
      have Hfc := hide hfc
      have Hrn := hide (And.intro hrm (And.intro hrn hrg))
      clear hRd hy hJ1 hfc hlv hrm hrn hrg
      gi_wp2
      refine wpIn_region_any (by kernel_rfl) ?_
      refine ip 0 (some 6) (.pointer (some ⟨r.b, 0, none⟩)) rfl (by kernel_rfl) (by kernel_rfl) (by kernel_rfl) (fun _ _ _ h => h) (by kernel_rfl) (by kernel_rfl) (fun _ => by kernel_rfl) (fun _ => by kernel_rfl) ?_
      simp only [Act.put, List.setIfInBounds_toArray, List.set_cons_succ, List.set_cons_zero]
      refine ip 1 (some 7) (.bool true) rfl (by kernel_rfl) (by kernel_rfl) (by kernel_rfl) (fun _ _ _ h => h) (by kernel_rfl) (by kernel_rfl) (fun _ => by kernel_rfl) (fun _ => by kernel_rfl) ?_
      simp only [Act.put, List.setIfInBounds_toArray, List.set_cons_succ, List.set_cons_zero]
      refine ip 2 (some 8) (.bool true) rfl (by kernel_rfl) (by kernel_rfl) (by kernel_rfl) (fun _ _ _ h => h) (by kernel_rfl) (by kernel_rfl) (fun _ => by kernel_rfl) (fun _ => by kernel_rfl) ?_
      simp only [Act.put, List.setIfInBounds_toArray, List.set_cons_succ, List.set_cons_zero]
      refine ip 3 (some 9) (.func (.yield l) #[] #[]) rfl (by kernel_rfl) (by kernel_rfl) (by kernel_rfl) (fun _ _ _ h => h) (by kernel_rfl) (by kernel_rfl) (fun _ => by kernel_rfl) (fun _ => by kernel_rfl) ?_
      simp only [Act.put, List.setIfInBounds_toArray, List.set_cons_succ, List.set_cons_zero]
      refine ip 4 (some 10) (.pointer (some ⟨r.b, 0, none⟩)) rfl (by kernel_rfl) (by kernel_rfl) (by kernel_rfl) (fun _ _ _ h => h) (by kernel_rfl) (by kernel_rfl) (fun _ => by kernel_rfl) (fun _ => by kernel_rfl) ?_
      simp only [Act.put, List.setIfInBounds_toArray, List.set_cons_succ, List.set_cons_zero]
      refine ip 5 (some 11) (.pointer (some ⟨r.b, 0, none⟩)) rfl (by kernel_rfl) (by kernel_rfl) (by kernel_rfl) (fun _ _ _ h => h) (by kernel_rfl) (by kernel_rfl) (fun _ => by kernel_rfl) (fun _ => by kernel_rfl) ?_
      simp only [Act.put, List.setIfInBounds_toArray, List.set_cons_succ, List.set_cons_zero]
      refine ip 6 (some 12) (.pointer (some ⟨r.b, 0, none⟩)) rfl (by kernel_rfl) (by kernel_rfl) (by kernel_rfl) (fun _ _ _ h => h) (by kernel_rfl) (by kernel_rfl) (fun _ => by kernel_rfl) (fun _ => by kernel_rfl) ?_
      simp only [Act.put, List.setIfInBounds_toArray, List.set_cons_succ, List.set_cons_zero]
      refine ip 7 (some 13) (.pointer (some ⟨r.b, 0, none⟩)) rfl (by kernel_rfl) (by kernel_rfl) (by kernel_rfl) (fun _ _ _ h => h) (by kernel_rfl) (by kernel_rfl) (fun _ => by kernel_rfl) (fun _ => by kernel_rfl) ?_
      simp only [Act.put, List.setIfInBounds_toArray, List.set_cons_succ, List.set_cons_zero]
      refine ip 9 (some 15) (.pointer (some ⟨r.b, 0, none⟩)) rfl (by kernel_rfl) (by kernel_rfl) (by kernel_rfl) (fun _ _ _ h => h) (by kernel_rfl) (by kernel_rfl) (fun _ => by kernel_rfl) (fun _ => by kernel_rfl) ?_
      simp only [Act.put, List.setIfInBounds_toArray, List.set_cons_succ, List.set_cons_zero]
      refine ip 10 (some 16) (.pointer (some ⟨r.b, 0, none⟩)) rfl (by kernel_rfl) (by kernel_rfl) (by kernel_rfl) (fun _ _ _ h => h) (by kernel_rfl) (by kernel_rfl) (fun _ => by kernel_rfl) (fun _ => by kernel_rfl) ?_
      simp only [Act.put, List.setIfInBounds_toArray, List.set_cons_succ, List.set_cons_zero]
      refine ip 11 (some 17) (.pointer (some ⟨r.b, 0, none⟩)) rfl (by kernel_rfl) (by kernel_rfl) (by kernel_rfl) (fun _ _ _ h => h) (by kernel_rfl) (by kernel_rfl) (fun _ => by kernel_rfl) (fun _ => by kernel_rfl) ?_
      simp only [Act.put, List.setIfInBounds_toArray, List.set_cons_succ, List.set_cons_zero]
      refine ip 12 (some 18) (.pointer (some ⟨r.b, 2, none⟩)) rfl (by kernel_rfl) (by kernel_rfl) (by kernel_rfl) (fun _ _ _ h => h) (by kernel_rfl) (by kernel_rfl) (fun _ => by kernel_rfl) (fun _ => by kernel_rfl) ?_
      simp only [Act.put, List.setIfInBounds_toArray, List.set_cons_succ, List.set_cons_zero]
      refine wpAnyIn_ready (rs := [8, 13]) (by kernel_rfl) (by simp) (ival 8 (some 14) rfl (by kernel_rfl) (by kernel_rfl) (ex_loadN (vs := r.k.cs) 26 2 row33x siz33 rfl rfl ((Holds.block (unhide HR) rfl)) rfl rfl) ?_ (ival 13 (some 19) rfl (by kernel_rfl) (by kernel_rfl) (ex_loadN (vs := r.d.cs) 38 18 row39 siz39 rfl rfl ((Holds.block (unhide HR) rfl)) rfl rfl) ?_ AllReadyIn.nil))
      · simp only [Act.put, List.setIfInBounds_toArray, List.set_cons_succ, List.set_cons_zero]
        refine wpAnyIn_ready (rs := [13]) (by kernel_rfl) (by simp) (ival 13 (some 19) rfl (by kernel_rfl) (by kernel_rfl) (ex_loadN (vs := r.d.cs) 38 18 row39 siz39 rfl rfl ((Holds.block (unhide HR) rfl)) rfl rfl) ?_ AllReadyIn.nil)
        simp only [Act.put, List.setIfInBounds_toArray, List.set_cons_succ, List.set_cons_zero]
        refine wpAnyIn_ready (rs := [14]) (by kernel_rfl) (by simp) (iround 14 (some 20) rfl (by kernel_rfl) (by kernel_rfl) (Eq.trans (b := (Instr.yield l #[r.k.agg, r.d.agg]).run Tryz.prog wr.drew) (by kernel_rfl) (unhide Hy)) (unhide HRd) ?_ AllReadyIn.nil)
        rintro e W3 (⟨rfl, hJ3, hb3⟩ | ⟨rfl, hJx3⟩)
        · refine ⟨_, rfl, ?_⟩
          simp only [Act.put, List.setIfInBounds_toArray, List.set_cons_succ, List.set_cons_zero]
          refine ip 15 (some 21) (.bool true) rfl (by kernel_rfl) (by kernel_rfl) (by kernel_rfl) (fun _ _ _ h => h) (by kernel_rfl) (by kernel_rfl) (fun _ => by kernel_rfl) (fun _ => by kernel_rfl) ?_
          simp only [Act.put, List.setIfInBounds_toArray, List.set_cons_succ, List.set_cons_zero]
          refine wpAnyIn_done (by kernel_rfl) ?_ _
          try simp only [Act.put, List.setIfInBounds_toArray, List.set_cons_succ, List.set_cons_zero]
          have HT3 := hide ((unhide HT).block (fun b hb => hb3.1.block b (hlt b hb)))
          have hc3 : W3.cell? ⟨Bn, 0, none⟩ = some (.pointer (some ⟨T.t, 0, none⟩)) := (World.cell?_of_block (a := ⟨Bn, 0, none⟩) hb3.2).trans hc
          have HJ3 := hide hJ3
          have Hs3 := hide hb3.1.size
          clear hJ3 hb3
          gi_wp2
          refine wpIn_region_any (by kernel_rfl) ?_
          refine ip 1 (some 23) (.pointer (some ⟨r.b, 0, none⟩)) rfl (by kernel_rfl) (by kernel_rfl) (by kernel_rfl) (fun _ _ _ h => h) (by kernel_rfl) (by kernel_rfl) (fun _ => by kernel_rfl) (fun _ => by kernel_rfl) ?_
          simp only [Act.put, List.setIfInBounds_toArray, List.set_cons_succ, List.set_cons_zero]
          refine ip 2 (some 24) (.pointer (some ⟨r.b, 0, none⟩)) rfl (by kernel_rfl) (by kernel_rfl) (by kernel_rfl) (fun _ _ _ h => h) (by kernel_rfl) (by kernel_rfl) (fun _ => by kernel_rfl) (fun _ => by kernel_rfl) ?_
          simp only [Act.put, List.setIfInBounds_toArray, List.set_cons_succ, List.set_cons_zero]
          refine ip 3 (some 25) (.pointer (some ⟨r.b, 20, none⟩)) rfl (by kernel_rfl) (by kernel_rfl) (by kernel_rfl) (fun _ _ _ h => h) (by kernel_rfl) (by kernel_rfl) (fun _ => by kernel_rfl) (fun _ => by kernel_rfl) ?_
          simp only [Act.put, List.setIfInBounds_toArray, List.set_cons_succ, List.set_cons_zero]
          refine wpAnyIn_ready (rs := [0, 4]) (by kernel_rfl) (by simp) (ival 0 (some 22) rfl (by kernel_rfl) (by kernel_rfl) (ex_loadC (W := W3.drew) 97 Tryz.isAgg97 rfl rfl hc3) ?_ (ival 4 (some 26) rfl (by kernel_rfl) (by kernel_rfl) (ex_load1 90 Tryz.isAgg90 rfl rfl ((Holds.block ((unhide HT3).rows r (unhide Hrn).1) rfl : Holds W3.drew r.b r.cs)) rfl) ?_ AllReadyIn.nil))
          · simp only [Act.put, List.setIfInBounds_toArray, List.set_cons_succ, List.set_cons_zero]
            refine wpAnyIn_ready (rs := [4]) (by kernel_rfl) (by simp) (ival 4 (some 26) rfl (by kernel_rfl) (by kernel_rfl) (ex_load1 90 Tryz.isAgg90 rfl rfl ((Holds.block ((unhide HT3).rows r (unhide Hrn).1) rfl : Holds W3.drew r.b r.cs)) rfl) ?_ AllReadyIn.nil)
            simp only [Act.put, List.setIfInBounds_toArray, List.set_cons_succ, List.set_cons_zero]
            refine wpAnyIn_ready (rs := [5]) (by kernel_rfl) (by simp) (icall 5 (some 27) rfl (by kernel_rfl) (by kernel_rfl) (by kernel_rfl) (next50 T r.n W3.drew (unhide HT3).drew (by omega) (by have := ((unhide HT3).num r (unhide Hrn).1).2; omega)) ?_ AllReadyIn.nil)
            rintro e X ⟨rfl, rfl⟩
            refine ⟨_, rfl, ?_⟩
            simp only [Act.put, List.setIfInBounds_toArray, List.set_cons_succ, List.set_cons_zero]
            refine ip 6 (some 3) (pv ((T.next r.n).map (·.b))) rfl (by kernel_rfl) (by kernel_rfl) (by kernel_rfl) (fun _ _ _ h => h) (by kernel_rfl) (by kernel_rfl) (fun _ => by kernel_rfl) (fun _ => by kernel_rfl) ?_
            simp only [Act.put, List.setIfInBounds_toArray, List.set_cons_succ, List.set_cons_zero]
            refine wpAnyIn_done (by kernel_rfl) ?_ _
            try simp only [Act.put, List.setIfInBounds_toArray, List.set_cons_succ, List.set_cons_zero]
            gi_wp2
            go_roundw
            case rel =>
              refine ⟨pre ++ [r.pr], r.n, rfl, hide ?_, hide ?_, hide (unhide HT3).drew, hc3, hide ?_⟩
              · rw [unhide HX, unhide Hfc]; simp
              · exact (unhide HAb) _ W3 W3.drew none (unhide HJ3) (grown_of_below ((Below.refl _ _).drew)) (fun r e => by cases e)
              · have h1 := unhide HZ; have h2 : wr.heap.size ≤ W3.heap.size := unhide Hs3; have h3 := ((unhide HT3).num r (unhide Hrn).1).2; exact ⟨Nat.le_trans h1.1 h2, Nat.le_trans h1.2.1 h2, h3⟩
            case measure =>
              rw [left_next (unhide HT3), left_row (unhide HT3) (unhide Hrn).1]
              exact Nat.lt_succ_self _
          · simp only [Act.put, List.setIfInBounds_toArray, List.set_cons_succ, List.set_cons_zero]
            refine wpAnyIn_ready (rs := [0]) (by kernel_rfl) (by simp) (ival 0 (some 22) rfl (by kernel_rfl) (by kernel_rfl) (ex_loadC (W := W3.drew) 97 Tryz.isAgg97 rfl rfl hc3) ?_ AllReadyIn.nil)
            simp only [Act.put, List.setIfInBounds_toArray, List.set_cons_succ, List.set_cons_zero]
            refine wpAnyIn_ready (rs := [5]) (by kernel_rfl) (by simp) (icall 5 (some 27) rfl (by kernel_rfl) (by kernel_rfl) (by kernel_rfl) (next50 T r.n W3.drew (unhide HT3).drew (by omega) (by have := ((unhide HT3).num r (unhide Hrn).1).2; omega)) ?_ AllReadyIn.nil)
            rintro e X ⟨rfl, rfl⟩
            refine ⟨_, rfl, ?_⟩
            simp only [Act.put, List.setIfInBounds_toArray, List.set_cons_succ, List.set_cons_zero]
            refine ip 6 (some 3) (pv ((T.next r.n).map (·.b))) rfl (by kernel_rfl) (by kernel_rfl) (by kernel_rfl) (fun _ _ _ h => h) (by kernel_rfl) (by kernel_rfl) (fun _ => by kernel_rfl) (fun _ => by kernel_rfl) ?_
            simp only [Act.put, List.setIfInBounds_toArray, List.set_cons_succ, List.set_cons_zero]
            refine wpAnyIn_done (by kernel_rfl) ?_ _
            try simp only [Act.put, List.setIfInBounds_toArray, List.set_cons_succ, List.set_cons_zero]
            gi_wp2
            go_roundw
            case rel =>
              refine ⟨pre ++ [r.pr], r.n, rfl, hide ?_, hide ?_, hide (unhide HT3).drew, hc3, hide ?_⟩
              · rw [unhide HX, unhide Hfc]; simp
              · exact (unhide HAb) _ W3 W3.drew none (unhide HJ3) (grown_of_below ((Below.refl _ _).drew)) (fun r e => by cases e)
              · have h1 := unhide HZ; have h2 : wr.heap.size ≤ W3.heap.size := unhide Hs3; have h3 := ((unhide HT3).num r (unhide Hrn).1).2; exact ⟨Nat.le_trans h1.1 h2, Nat.le_trans h1.2.1 h2, h3⟩
            case measure =>
              rw [left_next (unhide HT3), left_row (unhide HT3) (unhide Hrn).1]
              exact Nat.lt_succ_self _
        · refine ⟨_, rfl, ?_⟩
          simp only [Act.put, List.setIfInBounds_toArray, List.set_cons_succ, List.set_cons_zero]
          refine ip 15 (some 21) (.bool false) rfl (by kernel_rfl) (by kernel_rfl) (by kernel_rfl) (fun _ _ _ h => h) (by kernel_rfl) (by kernel_rfl) (fun _ => by kernel_rfl) (fun _ => by kernel_rfl) ?_
          simp only [Act.put, List.setIfInBounds_toArray, List.set_cons_succ, List.set_cons_zero]
          refine wpAnyIn_done (by kernel_rfl) ?_ _
          try simp only [Act.put, List.setIfInBounds_toArray, List.set_cons_succ, List.set_cons_zero]
          have HJx := hide hJx3
          clear hJx3
          gi_wp2
          go_end0
          refine ⟨⟨_, rfl⟩, .inr ⟨pre ++ [r.pr], ?_, unhide HJx⟩⟩
          rw [unhide HX, unhide Hfc]
          exact ⟨(T.rows.filter (after r.n)).map RR.pr, by simp⟩
      · simp only [Act.put, List.setIfInBounds_toArray, List.set_cons_succ, List.set_cons_zero]
        refine wpAnyIn_ready (rs := [8]) (by kernel_rfl) (by simp) (ival 8 (some 14) rfl (by kernel_rfl) (by kernel_rfl) (ex_loadN (vs := r.k.cs) 26 2 row33x siz33 rfl rfl ((Holds.block (unhide HR) rfl)) rfl rfl) ?_ AllReadyIn.nil)
        simp only [Act.put, List.setIfInBounds_toArray, List.set_cons_succ, List.set_cons_zero]
        refine wpAnyIn_ready (rs := [14]) (by kernel_rfl) (by simp) (iround 14 (some 20) rfl (by kernel_rfl) (by kernel_rfl) (Eq.trans (b := (Instr.yield l #[r.k.agg, r.d.agg]).run Tryz.prog wr.drew) (by kernel_rfl) (unhide Hy)) (unhide HRd) ?_ AllReadyIn.nil)
        rintro e W3 (⟨rfl, hJ3, hb3⟩ | ⟨rfl, hJx3⟩)
        · refine ⟨_, rfl, ?_⟩
          simp only [Act.put, List.setIfInBounds_toArray, List.set_cons_succ, List.set_cons_zero]
          refine ip 15 (some 21) (.bool true) rfl (by kernel_rfl) (by kernel_rfl) (by kernel_rfl) (fun _ _ _ h => h) (by kernel_rfl) (by kernel_rfl) (fun _ => by kernel_rfl) (fun _ => by kernel_rfl) ?_
          simp only [Act.put, List.setIfInBounds_toArray, List.set_cons_succ, List.set_cons_zero]
          refine wpAnyIn_done (by kernel_rfl) ?_ _
          try simp only [Act.put, List.setIfInBounds_toArray, List.set_cons_succ, List.set_cons_zero]
          have HT3 := hide ((unhide HT).block (fun b hb => hb3.1.block b (hlt b hb)))
          have hc3 : W3.cell? ⟨Bn, 0, none⟩ = some (.pointer (some ⟨T.t, 0, none⟩)) := (World.cell?_of_block (a := ⟨Bn, 0, none⟩) hb3.2).trans hc
          have HJ3 := hide hJ3
          have Hs3 := hide hb3.1.size
          clear hJ3 hb3
          gi_wp2
          refine wpIn_region_any (by kernel_rfl) ?_
          refine ip 1 (some 23) (.pointer (some ⟨r.b, 0, none⟩)) rfl (by kernel_rfl) (by kernel_rfl) (by kernel_rfl) (fun _ _ _ h => h) (by kernel_rfl) (by kernel_rfl) (fun _ => by kernel_rfl) (fun _ => by kernel_rfl) ?_
          simp only [Act.put, List.setIfInBounds_toArray, List.set_cons_succ, List.set_cons_zero]
          refine ip 2 (some 24) (.pointer (some ⟨r.b, 0, none⟩)) rfl (by kernel_rfl) (by kernel_rfl) (by kernel_rfl) (fun _ _ _ h => h) (by kernel_rfl) (by kernel_rfl) (fun _ => by kernel_rfl) (fun _ => by kernel_rfl) ?_
          simp only [Act.put, List.setIfInBounds_toArray, List.set_cons_succ, List.set_cons_zero]
          refine ip 3 (some 25) (.pointer (some ⟨r.b, 20, none⟩)) rfl (by kernel_rfl) (by kernel_rfl) (by kernel_rfl) (fun _ _ _ h => h) (by kernel_rfl) (by kernel_rfl) (fun _ => by kernel_rfl) (fun _ => by kernel_rfl) ?_
          simp only [Act.put, List.setIfInBounds_toArray, List.set_cons_succ, List.set_cons_zero]
          refine wpAnyIn_ready (rs := [0, 4]) (by kernel_rfl) (by simp) (ival 0 (some 22) rfl (by kernel_rfl) (by kernel_rfl) (ex_loadC (W := W3.drew) 97 Tryz.isAgg97 rfl rfl hc3) ?_ (ival 4 (some 26) rfl (by kernel_rfl) (by kernel_rfl) (ex_load1 90 Tryz.isAgg90 rfl rfl ((Holds.block ((unhide HT3).rows r (unhide Hrn).1) rfl : Holds W3.drew r.b r.cs)) rfl) ?_ AllReadyIn.nil))
          · simp only [Act.put, List.setIfInBounds_toArray, List.set_cons_succ, List.set_cons_zero]
            refine wpAnyIn_ready (rs := [4]) (by kernel_rfl) (by simp) (ival 4 (some 26) rfl (by kernel_rfl) (by kernel_rfl) (ex_load1 90 Tryz.isAgg90 rfl rfl ((Holds.block ((unhide HT3).rows r (unhide Hrn).1) rfl : Holds W3.drew r.b r.cs)) rfl) ?_ AllReadyIn.nil)
            simp only [Act.put, List.setIfInBounds_toArray, List.set_cons_succ, List.set_cons_zero]
            refine wpAnyIn_ready (rs := [5]) (by kernel_rfl) (by simp) (icall 5 (some 27) rfl (by kernel_rfl) (by kernel_rfl) (by kernel_rfl) (next50 T r.n W3.drew (unhide HT3).drew (by omega) (by have := ((unhide HT3).num r (unhide Hrn).1).2; omega)) ?_ AllReadyIn.nil)
            rintro e X ⟨rfl, rfl⟩
            refine ⟨_, rfl, ?_⟩
            simp only [Act.put, List.setIfInBounds_toArray, List.set_cons_succ, List.set_cons_zero]
            refine ip 6 (some 3) (pv ((T.next r.n).map (·.b))) rfl (by kernel_rfl) (by kernel_rfl) (by kernel_rfl) (fun _ _ _ h => h) (by kernel_rfl) (by kernel_rfl) (fun _ => by kernel_rfl) (fun _ => by kernel_rfl) ?_
            simp only [Act.put, List.setIfInBounds_toArray, List.set_cons_succ, List.set_cons_zero]
            refine wpAnyIn_done (by kernel_rfl) ?_ _
            try simp only [Act.put, List.setIfInBounds_toArray, List.set_cons_succ, List.set_cons_zero]
            gi_wp2
            go_roundw
            case rel =>
              refine ⟨pre ++ [r.pr], r.n, rfl, hide ?_, hide ?_, hide (unhide HT3).drew, hc3, hide ?_⟩
              · rw [unhide HX, unhide Hfc]; simp
              · exact (unhide HAb) _ W3 W3.drew none (unhide HJ3) (grown_of_below ((Below.refl _ _).drew)) (fun r e => by cases e)
              · have h1 := unhide HZ; have h2 : wr.heap.size ≤ W3.heap.size := unhide Hs3; have h3 := ((unhide HT3).num r (unhide Hrn).1).2; exact ⟨Nat.le_trans h1.1 h2, Nat.le_trans h1.2.1 h2, h3⟩
            case measure =>
              rw [left_next (unhide HT3), left_row (unhide HT3) (unhide Hrn).1]
              exact Nat.lt_succ_self _
          · simp only [Act.put, List.setIfInBounds_toArray, List.set_cons_succ, List.set_cons_zero]
            refine wpAnyIn_ready (rs := [0]) (by kernel_rfl) (by simp) (ival 0 (some 22) rfl (by kernel_rfl) (by kernel_rfl) (ex_loadC (W := W3.drew) 97 Tryz.isAgg97 rfl rfl hc3) ?_ AllReadyIn.nil)
            simp only [Act.put, List.setIfInBounds_toArray, List.set_cons_succ, List.set_cons_zero]
            refine wpAnyIn_ready (rs := [5]) (by kernel_rfl) (by simp) (icall 5 (some 27) rfl (by kernel_rfl) (by kernel_rfl) (by kernel_rfl) (next50 T r.n W3.drew (unhide HT3).drew (by omega) (by have := ((unhide HT3).num r (unhide Hrn).1).2; omega)) ?_ AllReadyIn.nil)
            rintro e X ⟨rfl, rfl⟩
            refine ⟨_, rfl, ?_⟩
            simp only [Act.put, List.setIfInBounds_toArray, List.set_cons_succ, List.set_cons_zero]
            refine ip 6 (some 3) (pv ((T.next r.n).map (·.b))) rfl (by kernel_rfl) (by kernel_rfl) (by kernel_rfl) (fun _ _ _ h => h) (by kernel_rfl) (by kernel_rfl) (fun _ => by kernel_rfl) (fun _ => by kernel_rfl) ?_
            simp only [Act.put, List.setIfInBounds_toArray, List.set_cons_succ, List.set_cons_zero]
            refine wpAnyIn_done (by kernel_rfl) ?_ _
            try simp only [Act.put, List.setIfInBounds_toArray, List.set_cons_succ, List.set_cons_zero]
            gi_wp2
            go_roundw
            case rel =>
              refine ⟨pre ++ [r.pr], r.n, rfl, hide ?_, hide ?_, hide (unhide HT3).drew, hc3, hide ?_⟩
              · rw [unhide HX, unhide Hfc]; simp
              · exact (unhide HAb) _ W3 W3.drew none (unhide HJ3) (grown_of_below ((Below.refl _ _).drew)) (fun r e => by cases e)
              · have h1 := unhide HZ; have h2 : wr.heap.size ≤ W3.heap.size := unhide Hs3; have h3 := ((unhide HT3).num r (unhide Hrn).1).2; exact ⟨Nat.le_trans h1.1 h2, Nat.le_trans h1.2.1 h2, h3⟩
            case measure =>
              rw [left_next (unhide HT3), left_row (unhide HT3) (unhide Hrn).1]
              exact Nat.lt_succ_self _
        · refine ⟨_, rfl, ?_⟩
          simp only [Act.put, List.setIfInBounds_toArray, List.set_cons_succ, List.set_cons_zero]
          refine ip 15 (some 21) (.bool false) rfl (by kernel_rfl) (by kernel_rfl) (by kernel_rfl) (fun _ _ _ h => h) (by kernel_rfl) (by kernel_rfl) (fun _ => by kernel_rfl) (fun _ => by kernel_rfl) ?_
          simp only [Act.put, List.setIfInBounds_toArray, List.set_cons_succ, List.set_cons_zero]
          refine wpAnyIn_done (by kernel_rfl) ?_ _
          try simp only [Act.put, List.setIfInBounds_toArray, List.set_cons_succ, List.set_cons_zero]
          have HJx := hide hJx3
          clear hJx3
          gi_wp2
          go_end0
          refine ⟨⟨_, rfl⟩, .inr ⟨pre ++ [r.pr], ?_, unhide HJx⟩⟩
          rw [unhide HX, unhide Hfc]
          exact ⟨(T.rows.filter (after r.n)).map RR.pr, by simp⟩
theorem Hq.three (w : World) (E : List Nat) {b0 : Nat} {c0 : List Value} (h0 : Holds w b0 c0) (hc0 : 0 < c0.length) (a b : List Value) (s t : TypeId) (ha : 0 < a.length) (hb : 0 < b.length) : Hq w ((w.alloc (Obj.cells a.toArray s)).alloc (Obj.cells b.toArray t)) E [(b0, c0), (w.heap.size, a), (w.heap.size + 1, b)] := by
  have h := (((Hq.nil w E).add h0 hc0 (fun q hq => by cases hq)).new a s ha).new b t hb
  rw [show (w.alloc (Obj.cells a.toArray s)).heap.size = w.heap.size + 1 by simp] at h
  exact h
theorem ex_build58 {o : Oper} {a : Act} {w : World} {x y : Operand} {k : KK} {d : DD} (ho : o.op = .build 53 #[(0, x), (1, y)]) (hx : a.eval x = .agg k.cs.toArray) (hy : a.eval y = .agg d.cs.toArray) : (execOp a.eval o).run Tryz.prog w = .ok (.value (.agg (k.cs ++ d.cs).toArray)) w := by
  have e : (Instr.build 53 #[(0, .agg k.cs.toArray), (1, .agg d.cs.toArray)]).run Tryz.prog w = .ok (.agg (k.cs ++ d.cs).toArray) w := by kernel_rfl
  unfold execOp
  simp only [ho, List.map_toArray, List.map_cons, List.map_nil, hx, hy]
  simp [e]
theorem tabs_fr {w X : World} {E : List Nat} (h : Lib.Utf8Tabs 1 2 w) (hf : Fr w X E) (hE : ∀ b ∈ E, 3 ≤ b) : Lib.Utf8Tabs 1 2 X := by
  have hs := tabs_size h
  have e2 : X.heap[1]? = w.heap[1]? := hf.block 1 (by omega) (fun hm => by have := hE _ hm; omega)
  have e3 : X.heap[2]? = w.heap[2]? := hf.block 2 (by omega) (fun hm => by have := hE _ hm; omega)
  exact ⟨fun c hc => (World.cell?_of_block (a := ⟨1, c, none⟩) e2).trans (h.1 c hc), fun i hi => ⟨(World.cell?_of_block (a := ⟨2, 2 * i, none⟩) e3).trans (h.2 i hi).1, (World.cell?_of_block (a := ⟨2, 2 * i + 1, none⟩) e3).trans (h.2 i hi).2⟩⟩
theorem added_blocks {T : TT} {w X : World} {rv : Value} {R : Nat} {k : KK} {d : DD} (hg : ∀ g, rv.ownBlock = some g → T.rv.ownBlock = some g ∨ X.heap.size ≤ g) (hR : w.heap.size ≤ R) (hs : w.heap.size ≤ X.heap.size) : ∀ b ∈ (T.added rv R k d).blocks, b ∈ T.blocks ∨ w.heap.size ≤ b := by
  intro b hb
  simp only [TT.blocks, TT.added, List.mem_cons, List.mem_append, List.map_append, List.map_cons, List.map_nil, List.not_mem_nil, or_false] at hb ⊢
  rcases hb with h | h | h | h | h
  · exact .inl (.inl h)
  · exact .inl (.inr (.inl h))
  · rcases hg b (by simpa using h) with h | h
    · exact .inl (.inr (.inr (.inl (by rw [h]; simp))))
    · exact .inr (by omega)
  · exact .inl (.inr (.inr (.inr h)))
  · exact .inr (by omega)
theorem put_some (T : TT) (k : KK) (d : DD) (w : World) (hT : T.Is w) (hU : Lib.Utf8Tabs 1 2 w) (hk : OkK k) (hl : T.last < 4000000) (r : RR) (hf : T.find k = some r) : Calls Tryz.prog 128 #[.pointer (some ⟨T.t, 0, none⟩), k.agg, d.agg] w fun e w' => e = .returned (.int .i64 (0)) ∧ ∃ T' : TT, T'.Is w' ∧ T'.t = T.t ∧ Fr w w' T.blocks ∧ (∀ b ∈ T'.blocks, b ∈ T.blocks ∨ w.heap.size ≤ b) ∧ ((∃ r, T.find k = some r ∧ T' = T.upd r.b d) ∨ (T.find k = none ∧ goodK k = true ∧ ∃ rv R, T' = T.added rv R k d) ∨ (T.find k = none ∧ goodK k = false ∧ T' = T)) := by
  have hr := (T.find_mem hf).1
  have LL := hide (Hq.three w T.blocks (hT.rows r hr) (Nat.succ_pos _) k.cs d.cs 26 38 (Nat.succ_pos _) (Nat.succ_pos _))
  have HT := hide (hT.on (two_below w k.cs.toArray d.cs.toArray 26 38))
  have HH := hide hT
  clear hT
  rw [show k.agg = .agg k.cs.toArray from rfl, show d.agg = .agg d.cs.toArray from rfl]
  go_enter Tryz.func128, Tryz.ntmps128
  go_wp2
  refine wp_region_held_drew (P := Tryz.prog) (S := fun X => T.Is X ∧ Hq w X T.blocks [(r.b, r.cs), (w.heap.size, k.cs), (w.heap.size + 1, d.cs)]) (by kernel_rfl) ⟨(unhide HT).drew, (unhide LL).drew⟩ (fun hS0 => ?_)
  refine gsem 0 (some 11) (.pointer (some ⟨T.t, 0, none⟩)) rfl (by kernel_rfl) (by kernel_rfl) (by kernel_rfl) (fun _ _ _ h => h) (by kernel_rfl) (by kernel_rfl) (fun _ _ => by kernel_rfl) hS0 ?_
  simp only [Act.put, List.setIfInBounds_toArray, List.set_cons_succ, List.set_cons_zero]
  refine gsem 1 (some 12) (.pointer (some ⟨T.t, 0, none⟩)) rfl (by kernel_rfl) (by kernel_rfl) (by kernel_rfl) (fun _ _ _ h => h) (by kernel_rfl) (by kernel_rfl) (fun _ _ => by kernel_rfl) hS0 ?_
  simp only [Act.put, List.setIfInBounds_toArray, List.set_cons_succ, List.set_cons_zero]
  refine gsem 2 (some 13) (.pointer (some ⟨T.t, 0, none⟩)) rfl (by kernel_rfl) (by kernel_rfl) (by kernel_rfl) (fun _ _ _ h => h) (by kernel_rfl) (by kernel_rfl) (fun _ _ => by kernel_rfl) hS0 ?_
  simp only [Act.put, List.setIfInBounds_toArray, List.set_cons_succ, List.set_cons_zero]
  refine gsem 3 (some 14) (.map (some T.m)) rfl (by kernel_rfl) (by kernel_rfl) (by kernel_rfl) (fun _ _ _ h => h) (by kernel_rfl) (by kernel_rfl) (fun X hX => ex_load1 141 Tryz.isAgg141 rfl rfl (hX.1.tab) rfl) hS0 ?_
  simp only [Act.put, List.setIfInBounds_toArray, List.set_cons_succ, List.set_cons_zero]
  refine gsem 4 (some 15) (k.agg) rfl (by kernel_rfl) (by kernel_rfl) (by kernel_rfl) (fun _ _ _ h => h) (by kernel_rfl) (by kernel_rfl) (fun X hX => ex_loadN (vs := k.cs) 26 2 row33x siz33 rfl rfl (hX.2.get 1 rfl) rfl rfl) hS0 ?_
  simp only [Act.put, List.setIfInBounds_toArray, List.set_cons_succ, List.set_cons_zero]
  refine gsem 5 (some 16) (.tuple #[pv (some r.b), .bool true]) rfl (by kernel_rfl) (by kernel_rfl) (by kernel_rfl) (fun _ _ _ h => h) (by kernel_rfl) (by kernel_rfl) (fun X hX => ex_look (r := some r.b) rfl rfl rfl hX.1.map hk (by rw [hf]; rfl)) hS0 ?_
  simp only [Act.put, List.setIfInBounds_toArray, List.set_cons_succ, List.set_cons_zero]
  refine gsem 6 (some 10) (.tuple #[pv (some r.b), .bool true]) rfl (by kernel_rfl) (by kernel_rfl) (by kernel_rfl) (fun _ _ _ h => h) (by kernel_rfl) (by kernel_rfl) (fun _ _ => by kernel_rfl) hS0 ?_
  simp only [Act.put, List.setIfInBounds_toArray, List.set_cons_succ, List.set_cons_zero]
  refine gsem 7 (some 17) (pv (some r.b)) rfl (by kernel_rfl) (by kernel_rfl) (by kernel_rfl) (fun _ _ _ h => h) (by kernel_rfl) (by kernel_rfl) (fun _ _ => by kernel_rfl) hS0 ?_
  simp only [Act.put, List.setIfInBounds_toArray, List.set_cons_succ, List.set_cons_zero]
  refine gsem 9 (some 7) (pv (some r.b)) rfl (by kernel_rfl) (by kernel_rfl) (by kernel_rfl) (fun _ _ _ h => h) (by kernel_rfl) (by kernel_rfl) (fun _ _ => by kernel_rfl) hS0 ?_
  simp only [Act.put, List.setIfInBounds_toArray, List.set_cons_succ, List.set_cons_zero]
  refine gsem 8 (some 18) (.bool true) rfl (by kernel_rfl) (by kernel_rfl) (by kernel_rfl) (fun _ _ _ h => h) (by kernel_rfl) (by kernel_rfl) (fun _ _ => by kernel_rfl) hS0 ?_
  simp only [Act.put, List.setIfInBounds_toArray, List.set_cons_succ, List.set_cons_zero]
  refine gsem 10 (some 8) (.bool true) rfl (by kernel_rfl) (by kernel_rfl) (by kernel_rfl) (fun _ _ _ h => h) (by kernel_rfl) (by kernel_rfl) (fun _ _ => by kernel_rfl) hS0 ?_
  simp only [Act.put, List.setIfInBounds_toArray, List.set_cons_succ, List.set_cons_zero]
  refine wpAnyH_done (by kernel_rfl) ?_ _
  try simp only [Act.put, List.setIfInBounds_toArray, List.set_cons_succ, List.set_cons_zero]
  replace HT := hide hS0.1
  replace LL := hide hS0.2
  clear hS0
  unfold pv
  have hrb := hide (TT.Part.mem (T := T) (.inr (.inr (List.mem_map.2 ⟨r, hr, rfl⟩))))
  go_wp2_with (first | go_skip | ((refine rd (by rfl) (ex_loadN (vs := d.cs) 38 18 row39 siz39 rfl rfl ((unhide LL).get 2 rfl) rfl rfl) ?_); simp only [Act.put, List.setIfInBounds_toArray, List.set_cons_succ, List.set_cons_zero]) | ((refine st (vs := d.cs) 0 38 (by rfl) rfl rfl rfl rfl (by simp [DD.cs, VV.cs, Value.oneCell']) siz39 (unhide LL) rfl (by simp [dcs_length, rcs_length]) (Or.inl (unhide hrb)) ?_); intro w3 L3 hf3 hs3; replace LL := hide L3; have HF := hide hf3; clear L3 hf3 hs3; simp only [Act.put, List.setIfInBounds_toArray, List.set_cons_succ, List.set_cons_zero]))
  go_ret
  exact ⟨rfl, T.upd r.b d, (unhide HT).upd hr (unhide HF) ((unhide LL).get 0 rfl), rfl, (unhide LL).fr, (fun b hb => Or.inl (T.upd_blocks r.b d ▸ hb)), Or.inl ⟨r, hf, rfl⟩⟩
theorem put_good (T : TT) (k : KK) (d : DD) (w : World) (hT : T.Is w) (hU : Lib.Utf8Tabs 1 2 w) (hk : OkK k) (hl : T.last < 4000000) (hTT : Hid (∀ b ∈ T.blocks, 3 ≤ b)) (hf : T.find k = none) (hg : goodK k = true) : Calls Tryz.prog 128 #[.pointer (some ⟨T.t, 0, none⟩), k.agg, d.agg] w fun e w' => e = .returned (.int .i64 (0)) ∧ ∃ T' : TT, T'.Is w' ∧ T'.t = T.t ∧ Fr w w' T.blocks ∧ (∀ b ∈ T'.blocks, b ∈ T.blocks ∨ w.heap.size ≤ b) ∧ ((∃ r, T.find k = some r ∧ T' = T.upd r.b d) ∨ (T.find k = none ∧ goodK k = true ∧ ∃ rv R, T' = T.added rv R k d) ∨ (T.find k = none ∧ goodK k = false ∧ T' = T)) := by
  have HU := hide hU
  clear hU
  have LL := hide (Hq.two w T.blocks k.cs d.cs 26 38 (Nat.succ_pos _) (Nat.succ_pos _))
  have HT := hide (hT.on (two_below w k.cs.toArray d.cs.toArray 26 38))
  have HH := hide hT
  clear hT
  rw [show k.agg = .agg k.cs.toArray from rfl, show d.agg = .agg d.cs.toArray from rfl]
  go_enter Tryz.func128, Tryz.ntmps128
  go_wp2
  refine wp_region_held_drew (P := Tryz.prog) (S := fun X => T.Is X ∧ Hq w X T.blocks [(w.heap.size, k.cs), (w.heap.size + 1, d.cs)]) (by kernel_rfl) ⟨(unhide HT).drew, (unhide LL).drew⟩ (fun hS0 => ?_)
  refine gsem 0 (some 11) (.pointer (some ⟨T.t, 0, none⟩)) rfl (by kernel_rfl) (by kernel_rfl) (by kernel_rfl) (fun _ _ _ h => h) (by kernel_rfl) (by kernel_rfl) (fun _ _ => by kernel_rfl) hS0 ?_
  simp only [Act.put, List.setIfInBounds_toArray, List.set_cons_succ, List.set_cons_zero]
  refine gsem 1 (some 12) (.pointer (some ⟨T.t, 0, none⟩)) rfl (by kernel_rfl) (by kernel_rfl) (by kernel_rfl) (fun _ _ _ h => h) (by kernel_rfl) (by kernel_rfl) (fun _ _ => by kernel_rfl) hS0 ?_
  simp only [Act.put, List.setIfInBounds_toArray, List.set_cons_succ, List.set_cons_zero]
  refine gsem 2 (some 13) (.pointer (some ⟨T.t, 0, none⟩)) rfl (by kernel_rfl) (by kernel_rfl) (by kernel_rfl) (fun _ _ _ h => h) (by kernel_rfl) (by kernel_rfl) (fun _ _ => by kernel_rfl) hS0 ?_
  simp only [Act.put, List.setIfInBounds_toArray, List.set_cons_succ, List.set_cons_zero]
  refine gsem 3 (some 14) (.map (some T.m)) rfl (by kernel_rfl) (by kernel_rfl) (by kernel_rfl) (fun _ _ _ h => h) (by kernel_rfl) (by kernel_rfl) (fun X hX => ex_load1 141 Tryz.isAgg141 rfl rfl (hX.1.tab) rfl) hS0 ?_
  simp only [Act.put, List.setIfInBounds_toArray, List.set_cons_succ, List.set_cons_zero]
  refine gsem 4 (some 15) (k.agg) rfl (by kernel_rfl) (by kernel_rfl) (by kernel_rfl) (fun _ _ _ h => h) (by kernel_rfl) (by kernel_rfl) (fun X hX => ex_loadN (vs := k.cs) 26 2 row33x siz33 rfl rfl (hX.2.get 0 rfl) rfl rfl) hS0 ?_
  simp only [Act.put, List.setIfInBounds_toArray, List.set_cons_succ, List.set_cons_zero]
  refine gsem 5 (some 16) (.tuple #[pv (none), .bool false]) rfl (by kernel_rfl) (by kernel_rfl) (by kernel_rfl) (fun _ _ _ h => h) (by kernel_rfl) (by kernel_rfl) (fun X hX => ex_look (r := none) rfl rfl rfl hX.1.map hk (by rw [hf]; rfl)) hS0 ?_
  simp only [Act.put, List.setIfInBounds_toArray, List.set_cons_succ, List.set_cons_zero]
  refine gsem 6 (some 10) (.tuple #[pv (none), .bool false]) rfl (by kernel_rfl) (by kernel_rfl) (by kernel_rfl) (fun _ _ _ h => h) (by kernel_rfl) (by kernel_rfl) (fun _ _ => by kernel_rfl) hS0 ?_
  simp only [Act.put, List.setIfInBounds_toArray, List.set_cons_succ, List.set_cons_zero]
  refine gsem 7 (some 17) (pv (none)) rfl (by kernel_rfl) (by kernel_rfl) (by kernel_rfl) (fun _ _ _ h => h) (by kernel_rfl) (by kernel_rfl) (fun _ _ => by kernel_rfl) hS0 ?_
  simp only [Act.put, List.setIfInBounds_toArray, List.set_cons_succ, List.set_cons_zero]
  refine gsem 9 (some 7) (pv (none)) rfl (by kernel_rfl) (by kernel_rfl) (by kernel_rfl) (fun _ _ _ h => h) (by kernel_rfl) (by kernel_rfl) (fun _ _ => by kernel_rfl) hS0 ?_
  simp only [Act.put, List.setIfInBounds_toArray, List.set_cons_succ, List.set_cons_zero]
  refine gsem 8 (some 18) (.bool false) rfl (by kernel_rfl) (by kernel_rfl) (by kernel_rfl) (fun _ _ _ h => h) (by kernel_rfl) (by kernel_rfl) (fun _ _ => by kernel_rfl) hS0 ?_
  simp only [Act.put, List.setIfInBounds_toArray, List.set_cons_succ, List.set_cons_zero]
  refine gsem 10 (some 8) (.bool false) rfl (by kernel_rfl) (by kernel_rfl) (by kernel_rfl) (fun _ _ _ h => h) (by kernel_rfl) (by kernel_rfl) (fun _ _ => by kernel_rfl) hS0 ?_
  simp only [Act.put, List.setIfInBounds_toArray, List.set_cons_succ, List.set_cons_zero]
  refine wpAnyH_done (by kernel_rfl) ?_ _
  try simp only [Act.put, List.setIfInBounds_toArray, List.set_cons_succ, List.set_cons_zero]
  replace HT := hide hS0.1
  replace LL := hide hS0.2
  clear hS0
  unfold pv
  go_wp2_with (first | go_skip | ((refine rd (by rfl) (ex_loadN (vs := k.cs) 26 2 row33x siz33 rfl rfl ((unhide LL).get 0 rfl) rfl rfl) ?_); simp only [Act.put, List.setIfInBounds_toArray, List.set_cons_succ, List.set_cons_zero]))
  refine (check12 k.s k.n _ (tabs_fr (unhide HU) (unhide LL).fr (unhide hTT))).mono ?_
  rintro _ w4 ⟨rfl, hb⟩
  rw [show (kVal k.s k.n).good = goodK k from rfl, hg]
  replace HT := hide ((unhide HT).on hb)
  replace LL := hide ((unhide LL).on hb)
  clear hb
  simp only [if_true]
  go_wp2_with (first | go_skip | ((refine rd (by rfl) (ex_loadN (vs := k.cs) 26 2 row33x siz33 rfl rfl ((unhide LL).get 0 rfl) rfl rfl) ?_); simp only [Act.put, List.setIfInBounds_toArray, List.set_cons_succ, List.set_cons_zero]) | ((refine rd (by rfl) (ex_loadN (vs := d.cs) 38 18 row39 siz39 rfl rfl ((unhide LL).get 1 rfl) rfl rfl) ?_); simp only [Act.put, List.setIfInBounds_toArray, List.set_cons_succ, List.set_cons_zero]) | ((refine rd (by rfl) (ex_build58 rfl rfl rfl) ?_); simp only [Act.put, List.setIfInBounds_toArray, List.set_cons_succ, List.set_cons_zero]))
  refine (add34 T k d _ (unhide HT) hk hg hf hl).mono ?_
  rintro _ w5 ⟨rfl, rv, R, hT5, hF5, hR5, hg5⟩
  have HF := hide ((unhide LL).fr.trans hF5 (fun b hb => Or.inl hb))
  have hs := (unhide LL).fr.size
  have H5 := hide hT5
  have H6 := hide hg5
  have H7 := hide (Nat.le_trans hs hR5)
  have H8 := hide hs
  clear hT5 hF5 hg5 hR5 hs
  go_wp2
  go_ret
  refine ⟨rfl, _, unhide H5, rfl, unhide HF, ?_, Or.inr (Or.inl ⟨hf, hg, rv, R, rfl⟩)⟩
  exact added_blocks (unhide H6) (unhide H7) (unhide H8)
theorem put_bad (T : TT) (k : KK) (d : DD) (w : World) (hT : T.Is w) (hU : Lib.Utf8Tabs 1 2 w) (hk : OkK k) (hl : T.last < 4000000) (hTT : Hid (∀ b ∈ T.blocks, 3 ≤ b)) (hf : T.find k = none) (hg : goodK k = false) : Calls Tryz.prog 128 #[.pointer (some ⟨T.t, 0, none⟩), k.agg, d.agg] w fun e w' => e = .returned (.int .i64 (5)) ∧ ∃ T' : TT, T'.Is w' ∧ T'.t = T.t ∧ Fr w w' T.blocks ∧ (∀ b ∈ T'.blocks, b ∈ T.blocks ∨ w.heap.size ≤ b) ∧ ((∃ r, T.find k = some r ∧ T' = T.upd r.b d) ∨ (T.find k = none ∧ goodK k = true ∧ ∃ rv R, T' = T.added rv R k d) ∨ (T.find k = none ∧ goodK k = false ∧ T' = T)) := by
  have HU := hide hU
  clear hU
  have LL := hide (Hq.two w T.blocks k.cs d.cs 26 38 (Nat.succ_pos _) (Nat.succ_pos _))
  have HT := hide (hT.on (two_below w k.cs.toArray d.cs.toArray 26 38))
  have HH := hide hT
  clear hT
  rw [show k.agg = .agg k.cs.toArray from rfl, show d.agg = .agg d.cs.toArray from rfl]
  go_enter Tryz.func128, Tryz.ntmps128
  go_wp2
  refine wp_region_held_drew (P := Tryz.prog) (S := fun X => T.Is X ∧ Hq w X T.blocks [(w.heap.size, k.cs), (w.heap.size + 1, d.cs)]) (by kernel_rfl) ⟨(unhide HT).drew, (unhide LL).drew⟩ (fun hS0 => ?_)
  refine gsem 0 (some 11) (.pointer (some ⟨T.t, 0, none⟩)) rfl (by kernel_rfl) (by kernel_rfl) (by kernel_rfl) (fun _ _ _ h => h) (by kernel_rfl) (by kernel_rfl) (fun _ _ => by kernel_rfl) hS0 ?_
  simp only [Act.put, List.setIfInBounds_toArray, List.set_cons_succ, List.set_cons_zero]
  refine gsem 1 (some 12) (.pointer (some ⟨T.t, 0, none⟩)) rfl (by kernel_rfl) (by kernel_rfl) (by kernel_rfl) (fun _ _ _ h => h) (by kernel_rfl) (by kernel_rfl) (fun _ _ => by kernel_rfl) hS0 ?_
  simp only [Act.put, List.setIfInBounds_toArray, List.set_cons_succ, List.set_cons_zero]
  refine gsem 2 (some 13) (.pointer (some ⟨T.t, 0, none⟩)) rfl (by kernel_rfl) (by kernel_rfl) (by kernel_rfl) (fun _ _ _ h => h) (by kernel_rfl) (by kernel_rfl) (fun _ _ => by kernel_rfl) hS0 ?_
  simp only [Act.put, List.setIfInBounds_toArray, List.set_cons_succ, List.set_cons_zero]
  refine gsem 3 (some 14) (.map (some T.m)) rfl (by kernel_rfl) (by kernel_rfl) (by kernel_rfl) (fun _ _ _ h => h) (by kernel_rfl) (by kernel_rfl) (fun X hX => ex_load1 141 Tryz.isAgg141 rfl rfl (hX.1.tab) rfl) hS0 ?_
  simp only [Act.put, List.setIfInBounds_toArray, List.set_cons_succ, List.set_cons_zero]
  refine gsem 4 (some 15) (k.agg) rfl (by kernel_rfl) (by kernel_rfl) (by kernel_rfl) (fun _ _ _ h => h) (by kernel_rfl) (by kernel_rfl) (fun X hX => ex_loadN (vs := k.cs) 26 2 row33x siz33 rfl rfl (hX.2.get 0 rfl) rfl rfl) hS0 ?_
  simp only [Act.put, List.setIfInBounds_toArray, List.set_cons_succ, List.set_cons_zero]
  refine gsem 5 (some 16) (.tuple #[pv (none), .bool false]) rfl (by kernel_rfl) (by kernel_rfl) (by kernel_rfl) (fun _ _ _ h => h) (by kernel_rfl) (by kernel_rfl) (fun X hX => ex_look (r := none) rfl rfl rfl hX.1.map hk (by rw [hf]; rfl)) hS0 ?_
  simp only [Act.put, List.setIfInBounds_toArray, List.set_cons_succ, List.set_cons_zero]
  refine gsem 6 (some 10) (.tuple #[pv (none), .bool false]) rfl (by kernel_rfl) (by kernel_rfl) (by kernel_rfl) (fun _ _ _ h => h) (by kernel_rfl) (by kernel_rfl) (fun _ _ => by kernel_rfl) hS0 ?_
  simp only [Act.put, List.setIfInBounds_toArray, List.set_cons_succ, List.set_cons_zero]
  refine gsem 7 (some 17) (pv (none)) rfl (by kernel_rfl) (by kernel_rfl) (by kernel_rfl) (fun _ _ _ h => h) (by kernel_rfl) (by kernel_rfl) (fun _ _ => by kernel_rfl) hS0 ?_
  simp only [Act.put, List.setIfInBounds_toArray, List.set_cons_succ, List.set_cons_zero]
  refine gsem 9 (some 7) (pv (none)) rfl (by kernel_rfl) (by kernel_rfl) (by kernel_rfl) (fun _ _ _ h => h) (by kernel_rfl) (by kernel_rfl) (fun _ _ => by kernel_rfl) hS0 ?_
  simp only [Act.put, List.setIfInBounds_toArray, List.set_cons_succ, List.set_cons_zero]
  refine gsem 8 (some 18) (.bool false) rfl (by kernel_rfl) (by kernel_rfl) (by kernel_rfl) (fun _ _ _ h => h) (by kernel_rfl) (by kernel_rfl) (fun _ _ => by kernel_rfl) hS0 ?_
  simp only [Act.put, List.setIfInBounds_toArray, List.set_cons_succ, List.set_cons_zero]
  refine gsem 10 (some 8) (.bool false) rfl (by kernel_rfl) (by kernel_rfl) (by kernel_rfl) (fun _ _ _ h => h) (by kernel_rfl) (by kernel_rfl) (fun _ _ => by kernel_rfl) hS0 ?_
  simp only [Act.put, List.setIfInBounds_toArray, List.set_cons_succ, List.set_cons_zero]
  refine wpAnyH_done (by kernel_rfl) ?_ _
  try simp only [Act.put, List.setIfInBounds_toArray, List.set_cons_succ, List.set_cons_zero]
  replace HT := hide hS0.1
  replace LL := hide hS0.2
  clear hS0
  unfold pv
  go_wp2_with (first | go_skip | ((refine rd (by rfl) (ex_loadN (vs := k.cs) 26 2 row33x siz33 rfl rfl ((unhide LL).get 0 rfl) rfl rfl) ?_); simp only [Act.put, List.setIfInBounds_toArray, List.set_cons_succ, List.set_cons_zero]))
  refine (check12 k.s k.n _ (tabs_fr (unhide HU) (unhide LL).fr (unhide hTT))).mono ?_
  rintro _ w4 ⟨rfl, hb⟩
  rw [show (kVal k.s k.n).good = goodK k from rfl, hg]
  replace HT := hide ((unhide HT).on hb)
  replace LL := hide ((unhide LL).on hb)
  clear hb
  simp only [Bool.false_eq_true, if_false]
  go_wp2_with (first | go_skip | ((refine rd (by rfl) (ex_loadN (vs := k.cs) 26 2 row33x siz33 rfl rfl ((unhide LL).get 0 rfl) rfl rfl) ?_); simp only [Act.put, List.setIfInBounds_toArray, List.set_cons_succ, List.set_cons_zero]) | ((refine rd (by rfl) (ex_loadN (vs := d.cs) 38 18 row39 siz39 rfl rfl ((unhide LL).get 1 rfl) rfl rfl) ?_); simp only [Act.put, List.setIfInBounds_toArray, List.set_cons_succ, List.set_cons_zero]) | ((refine rd (by rfl) (ex_build58 rfl rfl rfl) ?_); simp only [Act.put, List.setIfInBounds_toArray, List.set_cons_succ, List.set_cons_zero]))
  go_ret
  exact ⟨rfl, T, unhide HT, rfl, (unhide LL).fr, (fun b hb => Or.inl hb), Or.inr (Or.inr ⟨hf, hg, rfl⟩)⟩
theorem put12 (T : TT) (k : KK) (d : DD) (w : World) (hT : T.Is w) (hU : Lib.Utf8Tabs 1 2 w) (hk : OkK k) (hl : T.last < 4000000) (hTT : ∀ b ∈ T.blocks, 3 ≤ b) : Calls Tryz.prog 128 #[.pointer (some ⟨T.t, 0, none⟩), k.agg, d.agg] w fun e w' => e = .returned (.int .i64 (if goodK k then 0 else 5)) ∧ ∃ T' : TT, T'.Is w' ∧ T'.t = T.t ∧ Fr w w' T.blocks ∧ (∀ b ∈ T'.blocks, b ∈ T.blocks ∨ w.heap.size ≤ b) ∧ ((∃ r, T.find k = some r ∧ T' = T.upd r.b d) ∨ (T.find k = none ∧ goodK k = true ∧ ∃ rv R, T' = T.added rv R k d) ∨ (T.find k = none ∧ goodK k = false ∧ T' = T)) := by
  by_cases hx : T.find k = none
  rotate_left
  · obtain ⟨r, hf⟩ := Option.ne_none_iff_exists'.1 hx
    have hg : goodK k = true := by
      have h1 := T.find_mem hf
      rw [← h1.2.2]
      exact hT.good r (by simp [TT.live, h1.1, h1.2.1])
    rw [if_pos hg]
    have := put_some T k d w hT hU hk hl r hf
    exact this
  · have hf := hx
    by_cases hg : goodK k = true
    · rw [if_pos hg]
      have := put_good T k d w hT hU hk hl (hide hTT) hf hg
      exact this
    · rw [if_neg hg]
      have := put_bad T k d w hT hU hk hl (hide hTT) hf (by simpa using hg)
      exact this
end
end Go.Proofs.YtmgflhhealdfoaaGreatDoor
namespace Go.Proofs.YtmgflhhealdfoaaGreatDoor
set_option maxHeartbeats 400000
section
open Go Go.Proofs Go.Maps Go.RowKit
attribute [local go_sem] Oper.semAt_some
section
variable {F : Fence} {n : Nat} {ops : Array Oper} {rest : List Oper} {Q : Exit → Act → World → Prop} {w X : World} {a : Act} {o : Oper}
/-- An operation in the fence, by its run. -/
theorem inV {V : Value} (hF : ∀ f, F.fn f) (hw : Region.wanted o (yielded ops a.tmps) = true) (hnd : ∀ c, o.op ≠ .defer c) (he : (execOp a.eval o).run Tryz.prog w = .ok (.value V) X)
    (h : wpListIn F n Tryz.prog ops Q rest (a.put o.dst V) X) : wpListIn F n Tryz.prog ops Q (o :: rest) a w := by
  refine BigFrame.wpListIn_want hw fun K hK => ?_
  refine ⟨fun f _ => hF f, ?_⟩
  have e : o.semAt F.round a.eval = execOp a.eval o := by
    cases F.round with
    | none => rfl
    | some l => exact Oper.semAt_some l _ _ hnd
  rw [e, he]
  exact hK _ _ h
theorem inS (hF : ∀ f, F.fn f) (hw : Region.wanted o (yielded ops a.tmps) = true) (hnd : ∀ c, o.op ≠ .defer c) (he : (execOp a.eval o).run Tryz.prog w = .ok .skip X)
    (h : wpListIn F n Tryz.prog ops Q rest (a.put o.dst undef) X) : wpListIn F n Tryz.prog ops Q (o :: rest) a w := by
  refine BigFrame.wpListIn_want hw fun K hK => ?_
  refine ⟨fun f _ => hF f, ?_⟩
  have e : o.semAt F.round a.eval = execOp a.eval o := by
    cases F.round with
    | none => rfl
    | some l => exact Oper.semAt_some l _ _ hnd
  rw [e, he]
  exact hK _ _ h
theorem ex_store {t : TypeId} {b p : Nat} {cs vs : List Value} {v : Value} {x y : Operand} (ho : o.op = .store t x y) (hx : a.eval x = .pointer (some ⟨b, p, none⟩)) (hy : a.eval y = v) (hv : v.cells.toList = vs) (h1 : ∀ u ∈ vs, u.oneCell' = true) (hi : (Tryz.prog.info? t).map (·.size) = some vs.length) (hH : Holds w b cs) (hp : p + vs.length ≤ cs.length) :
    (execOp a.eval o).run Tryz.prog w = .ok .skip (w.setCells b p vs) := by
  unfold execOp
  simp only [ho, hx, hy, Instr.storeAt, Instr.sureAddr, Sem.run_bind, Sem.run_pure, Result.andThen_ok, run_storeVar_any w b p t v vs hv (hH.there p vs.length hp) hi h1]
theorem ex_alloc33 (ho : o.op = .alloc 26) : (execOp a.eval o).run Tryz.prog w = .ok (.value (.pointer (some ⟨w.heap.size, 0, none⟩))) (w.alloc (Obj.cells zeroK.cs.toArray 26)) := by
  unfold execOp
  simp only [ho]
  simp [go_sem, Tryz.zeroValue26]
  rfl
theorem ex_alloc39 (ho : o.op = .alloc 38) : (execOp a.eval o).run Tryz.prog w = .ok (.value (.pointer (some ⟨w.heap.size, 0, none⟩))) (w.alloc (Obj.cells zeroD.cs.toArray 38)) := by
  unfold execOp
  simp only [ho]
  simp [go_sem, Tryz.zeroValue38]
  rfl
theorem ex_buildS {t e : TypeId} {size bytes : Nat} {z v : Value} {cs : List Value} {x : Operand} (ho : o.op = .buildSlice t 1 #[(0, x)]) (hx : a.eval x = v)
    (ht : Tryz.prog.underlying t = some (.slice e)) (hi : (Tryz.prog.info? e).map (fun i => (i.zero, i.size, i.bytes)) = some (some z, size, bytes)) (hs1 : size ≤ 100) (hv : v.cells.toList = cs) (hc : cs.length = size) (h0 : 0 < size) :
    (execOp a.eval o).run Tryz.prog w = .ok (.value (.slice (some ⟨w.heap.size, 0, none⟩) 1 1)) (w.alloc (Obj.cells cs.toArray e)) := by
  obtain ⟨i0, hi, hz0, hz1, hz2⟩ := info_parts hi
  have ev : v.cells = cs.toArray := by rw [← hv]
  have es : v.cells.size = size := by rw [ev]; simpa using hc
  have hr := run_buildSlice w t e 1 #[(0, v)] cs.toArray i0 _ ht hi hz0 (by rw [hz1]; omega) (by rw [hz1]; omega) (by
    rw [hz1, ← ev]
    exact fill_one size _ v (by simp) es)
  unfold execOp
  simp only [ho, List.map_toArray, List.map_cons, List.map_nil, hx]
  simp [hr]
theorem ex_append {t e : TypeId} {size bytes k m c B base : Nat} {z v : Value} {xs news : List Value} {s x : Operand} (ho : o.op = .call { callee := .builtin .append, args := #[s, x], argTypes := #[t, t] }) (hs : a.eval s = v) (hx : a.eval x = .slice (some ⟨B, 0, none⟩) m c)
    (ht : Tryz.prog.underlying t = some (.slice e)) (hi : (Tryz.prog.info? e).map (fun i => (i.zero, i.size, i.bytes)) = some (some z, size, bytes)) (hz : z.cells.size = size) (hsz : 0 < size) (hown : w.ownsRow base e size v k xs) (hB : Holds w B news) (hl : news.length = m * size) (h1 : ∀ u ∈ news, u.oneCell' = true)
    (hn : k + m ≤ 4000000) (hby : bytes ≤ 10000) (hbase : base ≤ w.heap.size) :
    ∃ A c' w', (execOp a.eval o).run Tryz.prog w = .ok (.value (.slice A (k + m) c')) w' ∧ w'.ownsRow base e size (.slice A (k + m) c') (k + m) (xs ++ news) ∧ w.grownBy w' v.ownBlock := by
  obtain ⟨i0, hi, hz0, hz1, hz2⟩ := info_parts hi
  obtain ⟨v', w', hrun, h2, h3, h4⟩ := append_fresh w base t o.type e i0 _ size bytes ht hi hz0 hz1 hz2 hz hsz v k xs hown ⟨B, 0, none⟩ m c news hl (fun j u hj => by
    rw [Addr.add_mid]
    exact hB.2 j u hj) h1 (by unfold maxLen; omega) (Nat.le_trans (Nat.mul_le_mul hn hby) (by decide)) hbase
  obtain ⟨A', c', rfl⟩ := own_form h2
  refine ⟨A', c', w', ?_, h2, h3⟩
  simp [execOp, ho, resolve, invoke, builtin, hs, hx, hrun, Result.andThen]
end
theorem appI {F : Fence} {n : Nat} {ops : Array Oper} {rest : List Oper} {Q : Exit → Act → World → Prop} {w : World} {a : Act} {o : Oper} {t e : TypeId} {size bytes k m c B base : Nat} {z v : Value} {xs news : List Value} {s x : Operand} (hF : ∀ f, F.fn f) (hw : Region.wanted o (yielded ops a.tmps) = true) (ho : o.op = .call { callee := .builtin .append, args := #[s, x], argTypes := #[t, t] }) (hs : a.eval s = v) (hx : a.eval x = .slice (some ⟨B, 0, none⟩) m c)
    (ht : Tryz.prog.underlying t = some (.slice e)) (hi : (Tryz.prog.info? e).map (fun i => (i.zero, i.size, i.bytes)) = some (some z, size, bytes)) (hz : z.cells.size = size) (hsz : 0 < size) (hown : w.ownsRow base e size v k xs) (hB : Holds w B news) (hl : news.length = m * size) (h1 : ∀ u ∈ news, u.oneCell' = true)
    (hn : k + m ≤ 4000000) (hby : bytes ≤ 10000) (hbase : base ≤ w.heap.size)
    (h : ∀ A c' w', w'.ownsRow base e size (.slice A (k + m) c') (k + m) (xs ++ news) → w.grownBy w' v.ownBlock → wpListIn F n Tryz.prog ops Q rest (a.put o.dst (.slice A (k + m) c')) w') : wpListIn F n Tryz.prog ops Q (o :: rest) a w := by
  obtain ⟨A, c', w', he, h2, h3⟩ := ex_append ho hs hx ht hi hz hsz hown hB hl h1 hn hby hbase
  exact inV hF hw (fun c e => by rw [ho] at e; cases e) he (h A c' w' h2 h3)
theorem boxed_holds {W : World} {B : Nat} {t : TypeId} {v : Value} (h : Boxed W B t v) : Holds W B [v] := by
  refine ⟨fun j => by simp [World.frozen?, show W.heap[B]? = _ from h], fun j u hu => ?_⟩
  obtain rfl : j = 0 := by
    have := (List.getElem?_eq_some_iff.1 hu).1
    simpa using this
  obtain rfl : v = u := by simpa using hu
  exact h.cell
theorem boxed_own {β : Type} (B : Nat) (t : TypeId) (v : Value) : Own (fun (_ : β) W => Boxed W B t v) := by
  intro s X Y row hv hg hrow
  refine hv.kept hg (fun e' => ?_)
  obtain ⟨o, ho, hc⟩ := hrow B e'.symm
  rw [show X.heap[B]? = _ from hv] at ho; cases ho; cases hc
theorem holds_own {X Y : World} {row : Option Nat} {b : Nat} {cs : List Value} (h : Holds X b cs) (hc : 0 < cs.length) (hg : X.grownBy Y row) (hrow : ∀ r, row = some r → ∃ o : Obj, X.heap[r]? = some o ∧ o.isCells = false) : Holds Y b cs := by
  refine h.block (hg.block b (h.lt hc) (fun e' => ?_))
  obtain ⟨o, ho, hco⟩ := hrow b e'.symm
  have h0 := h.cell 0 (List.getElem?_eq_getElem hc)
  cases o <;> simp [World.cell?, ho] at h0 <;> simp [Obj.isCells] at hco
/-- A new variable, and what is stored there. -/
theorem new_var (W : World) (c0 cs : List Value) (t : TypeId) (hc : cs.length ≤ c0.length) (he : cput c0 0 cs = cs) (h0 : 0 < c0.length) : Below W.heap.size W ((W.alloc (Obj.cells c0.toArray t)).setCells W.heap.size 0 cs) ∧ Holds ((W.alloc (Obj.cells c0.toArray t)).setCells W.heap.size 0 cs) W.heap.size cs ∧ ((W.alloc (Obj.cells c0.toArray t)).setCells W.heap.size 0 cs).heap.size = W.heap.size + 1 := by
  refine ⟨below_setCells (Nat.le_refl _) _ _ _ ((Below.refl _ _).alloc (Nat.le_refl _) _), ?_, by rw [size_setCells]; simp⟩
  have := (Holds.new W c0 t).put 0 cs (by omega)
  rw [he] at this
  exact this
theorem kb_t {n₀ Bn : Nat} {A B C : World} (h : Kb n₀ Bn A B) (k : Kb n₀ Bn B C) : Kb n₀ Bn A C := ⟨h.1.trans k.1, k.2.trans h.2⟩
theorem kb_b {n₀ Bn : Nat} {w : World} (hn : n₀ ≤ w.heap.size) (hB : Bn < w.heap.size) (W : World) (l : Nat) (o o' : Obj) (hl : w.heap.size ≤ l) (h : W.heap[l]? = some o) (h1 : o.isCells = false) (h2 : o.isWalk = false) : Kb n₀ Bn W (W.putObj l o') :=
  ⟨belowK_b hn W l o o' hl h h1 h2, by
    show (W.heap.setIfInBounds l o')[Bn]? = _
    rw [Array.getElem?_setIfInBounds_ne (by omega)]⟩
theorem siz61 : (Tryz.prog.info? 46).map (·.size) = some 1 := by kernel_rfl
theorem own_block {w w' : World} {base e size n : Nat} {v : Value} {xs : List Value} (h : w.ownsRow base e size v n xs) (he : ∀ g, v.ownBlock = some g → w'.heap[g]? = w.heap[g]?) : w'.ownsRow base e size v n xs := by
  obtain ⟨h1, h2⟩ := h
  refine ⟨h1, ?_⟩
  rcases h2 with h2 | ⟨g, cap, cur, rfl, h3, h4, h5⟩
  · exact .inl h2
  · exact .inr ⟨g, cap, cur, rfl, h3, (he g rfl).trans h4, h5⟩
theorem info58w : (Tryz.prog.info? 53).map (fun i => (i.zero, i.size, i.bytes)) = some (some (.agg (zeroK.cs ++ zeroD.cs).toArray), 20, 192) := by kernel_rfl
/-- The cells of properties. -/
def flatP (l : List (KK × DD)) : List Value := l.flatMap (fun x => x.1.cs ++ x.2.cs)
theorem flatP_append (l m : List (KK × DD)) : flatP (l ++ m) = flatP l ++ flatP m := by unfold flatP; rw [List.flatMap_append]
theorem flatP_one (x : KK × DD) : flatP [x] = x.1.cs ++ x.2.cs := by simp [flatP]
/-- A walk over a table that stays as it is. -/
theorem each_stops (T : TT) (n : Nat) (hn : 1 ≤ n) (Bn n₀ : Nat) (w : World) (hT : T.Is w) (hlast : T.last < 4000000) (hlt : ∀ b ∈ T.blocks, b < n₀) (hBs : Bn < w.heap.size) (hBn : w.cell? ⟨Bn, 0, none⟩ = some (.pointer (some ⟨T.t, 0, none⟩))) (hn₀ : n₀ ≤ w.heap.size) :
    SeqStopsK Fence.wide n Tryz.prog 86 #[.pointer (some ⟨Bn, 0, none⟩)] encP (Kb n₀ Bn) (fun ys => ys = T.live.map RR.pr) (fun pre => pre <+: T.live.map RR.pr) T.live.length w := by
  intro l J Jx W hW hJ hJx hY h0
  exact each_in n hn l Bn n₀ T J Jx W hJ (hT.on hW) hlast hlt hY ((hW.cell (p := ⟨Bn, 0, none⟩) hBs).trans hBn) h0 (by have := hW.size; omega)
set_option maxRecDepth 100000 in
theorem props27 (T : TT) (w : World) (hT : T.Is w) (hlast : T.last < 4000000) (hl : T.live.length ≤ 800000) : Calls Tryz.prog 66 #[.pointer (some ⟨T.t, 0, none⟩)] w fun e w' => ∃ v, e = .returned v ∧ w'.ownsRow w.heap.size 53 20 v T.live.length (flatP (T.live.map RR.pr)) ∧ Below w.heap.size w w' := by
  refine (callsIn_wide (n := 4)).1 ?_
  have HL := hide (len30 T w hT)
  have HE := hide (fun X => each41 T X)
  have HT := hide hT
  clear hT
  refine callsIn_of_wp_marks Tryz.func66 rfl trivial ?_ rfl
  simp only [Tryz.ntmps66, List.size_toArray, List.length_cons, List.length_nil, Nat.reduceAdd, Nat.reduceSub, Array.replicate_succ, Array.replicate_zero, List.push_toArray, List.append_toArray, List.nil_append, List.cons_append]
  gi_wp2_with fail
  refine ⟨trivial, (callsIn_wide.2 (unhide HL)).mono ?_⟩
  rintro e w1 ⟨rfl, rfl⟩
  obtain ⟨i0, hi, hz0, hz1, hz2⟩ := info_parts info58w
  obtain ⟨wm, hrun, hm1, hm2⟩ := run_makeSlice_owned (P := Tryz.prog) w1 w1.heap.size 46 53 i0 _ 20 Tryz.underlying46 hi hz0 hz1 .i64 .i64 T.live.length (by omega) (by rw [hz2]; omega) (by unfold maxLen; omega) (Nat.le_refl _)
  gi_wp2_with fail
  refine ⟨trivial, (callsIn_wide.2 ((unhide HE) _)).mono ?_⟩
  rintro e w2 ⟨rfl, rfl⟩
  have hms := hm2.size
  have hbm : Below w1.heap.size w1 wm := ⟨hm2.os, hm2.tape, hm2.output, hm2.size, fun k hk => hm2.block k hk (by simp)⟩
  have b3 : Boxed (wm.alloc (.cells #[.slice (some ⟨w1.heap.size, 0, none⟩) 0 T.live.length] 46)) wm.heap.size 46 (.slice (some ⟨w1.heap.size, 0, none⟩) 0 T.live.length) := Boxed.new wm 46 _
  have bn : Boxed ((wm.alloc (.cells #[.slice (some ⟨w1.heap.size, 0, none⟩) 0 T.live.length] 46)).alloc (.cells #[.pointer (some ⟨T.t, 0, none⟩)] 97)) (wm.heap.size + 1) 97 (.pointer (some ⟨T.t, 0, none⟩)) := by
    have := Boxed.new (wm.alloc (.cells #[.slice (some ⟨w1.heap.size, 0, none⟩) 0 T.live.length] 46)) 97 (.pointer (some ⟨T.t, 0, none⟩))
    rwa [World.size_alloc] at this
  have hB0 : Below w1.heap.size w1 ((wm.alloc (.cells #[.slice (some ⟨w1.heap.size, 0, none⟩) 0 T.live.length] 46)).alloc (.cells #[.pointer (some ⟨T.t, 0, none⟩)] 97)) := (hbm.alloc hms _).alloc (by simp; omega) _
  have hT3 := (unhide HT).on hB0
  have hlt3 := (unhide HT).lt
  have HTT := HT
  clear HL HE
  gi_wp2
  try simp only [World.size_alloc]
  refine wpIn_rangeFunc_ownH (α := KK × DD) rfl (by omega) (gf := 86) (lb := #[.pointer (some ⟨wm.heap.size + 1, 0, none⟩)]) rfl trivial (enters_of Tryz.func86 (by kernel_rfl) rfl)
    (each_stops T 3 (by omega) (wm.heap.size + 1) w1.heap.size _ hT3 hlast hlt3 (by simp) bn.cell (by simp; omega)) kb_t (kb_b (by simp; omega) (by simp)) (Below.refl _ _) (fun _ => rfl)
    (fun pre W => (∃ v, Boxed W wm.heap.size 46 v ∧ W.ownsRow w1.heap.size 53 20 v pre.length (flatP pre) ∧ True) ∧ Boxed W (wm.heap.size + 1) 97 (.pointer (some ⟨T.t, 0, none⟩)) ∧ Below w1.heap.size w1 W)
    (fun _ _ _ => False)
    (OwnFrom.and (Own.from (holdsRow_own w1.heap.size wm.heap.size 46 53 20 (fun pre : List (KK × DD) => pre.length) (fun pre => flatP pre) (fun _ _ => True)) _) (OwnFrom.and (Own.from (boxed_own _ _ _) _) (ownFrom_below (Nat.le_refl _) (by simp; omega))))
    (fun _ _ _ _ _ hs _ _ => hs)
    ⟨⟨_, b3.alloc _, (hm1.alloc _).alloc _, trivial⟩, bn, hB0⟩
    (fun x a' W => ∃ Bk Bd, a' = { tmps := #[.pointer (some ⟨T.t, 0, none⟩), undef, .slice none 0 0, .pointer (some ⟨wm.heap.size, 0, none⟩), .pointer (some ⟨Bk, 0, none⟩), .pointer (some ⟨Bd, 0, none⟩), .pointer (some ⟨T.t, 0, none⟩), .int .i64 T.live.length, .slice (some ⟨w1.heap.size, 0, none⟩) 0 T.live.length, .pointer (some ⟨T.t, 0, none⟩), .func (.func 86) #[] #[.pointer (some ⟨wm.heap.size + 1, 0, none⟩)], x.1.agg, x.2.agg, undef, undef, undef, undef, undef, undef, undef], defers := [] } ∧ Holds W Bk x.1.cs ∧ Holds W Bd x.2.cs)
    (fun x a' _ X Y row hs hg hr => by
      obtain ⟨Bk, Bd, h1, h2, h3⟩ := hs
      exact ⟨Bk, Bd, h1, holds_own h2 (Nat.succ_pos _) hg (fun r e => (hr r e).2), holds_own h3 (Nat.succ_pos _) hg (fun r e => (hr r e).2)⟩)
    ?assign ?body ?done ?stop
  case assign =>
    intro l pre x W K hI hK
    simp only [encP]
    obtain ⟨p1, p2, p3⟩ := new_var W zeroK.cs x.1.cs 26 (Nat.le_refl _) rfl (Nat.succ_pos _)
    obtain ⟨X1, hX1⟩ : ∃ X1, X1 = (W.alloc (Obj.cells zeroK.cs.toArray 26)).setCells W.heap.size 0 x.1.cs := ⟨_, rfl⟩
    rw [← hX1] at p1 p2 p3
    obtain ⟨q1, q2, q3⟩ := new_var X1 zeroD.cs x.2.cs 38 (Nat.le_refl _) rfl (Nat.succ_pos _)
    obtain ⟨X2, hX2⟩ : ∃ X2, X2 = (X1.alloc (Obj.cells zeroD.cs.toArray 38)).setCells X1.heap.size 0 x.2.cs := ⟨_, rfl⟩
    rw [← hX2] at q1 q2 q3
    have HK := hide (hK)
    have hb2 : Below W.heap.size W X2 := p1.trans (q1.mono (by omega))
    have hg2 : W.grownBy X2 none := grown_of_below hb2
    have hI2 : Hid _ := hide hI
    clear hK hI
    have ht : ((#[11, 12] : Array Tmp).zip #[x.1.agg, x.2.agg]).foldl (fun t x => t.setIfInBounds x.1 x.2) (#[.pointer (some ⟨T.t, 0, none⟩), undef, .slice none 0 0, .pointer (some ⟨wm.heap.size, 0, none⟩), undef, undef, .pointer (some ⟨T.t, 0, none⟩), .int .i64 T.live.length, .slice (some ⟨w1.heap.size, 0, none⟩) 0 T.live.length, .pointer (some ⟨T.t, 0, none⟩), .func (.func 86) #[] #[.pointer (some ⟨wm.heap.size + 1, 0, none⟩)], undef, undef, undef, undef, undef, undef, undef, undef, undef] : Array Value) = #[.pointer (some ⟨T.t, 0, none⟩), undef, .slice none 0 0, .pointer (some ⟨wm.heap.size, 0, none⟩), undef, undef, .pointer (some ⟨T.t, 0, none⟩), .int .i64 T.live.length, .slice (some ⟨w1.heap.size, 0, none⟩) 0 T.live.length, .pointer (some ⟨T.t, 0, none⟩), .func (.func 86) #[] #[.pointer (some ⟨wm.heap.size + 1, 0, none⟩)], x.1.agg, x.2.agg, undef, undef, undef, undef, undef, undef, undef] := by simp
    rw [ht]
    gi_wp2_with (first | go_skip | ((refine inV (fun _ => trivial) (by rfl) (by intro c h; cases h) (ex_alloc33 rfl) ?_); simp only [Act.put, List.setIfInBounds_toArray, List.set_cons_succ, List.set_cons_zero]) | ((refine inS (fun _ => trivial) (by rfl) (by intro c h; cases h) (ex_store (t := 26) (vs := x.1.cs) rfl rfl rfl rfl (by simp [KK.cs, Value.oneCell']) siz33 (Holds.new W zeroK.cs 26) (Nat.le_refl _)) ?_); rw [← hX1]; simp only [Act.put, List.setIfInBounds_toArray, List.set_cons_succ, List.set_cons_zero]) | ((refine inV (fun _ => trivial) (by rfl) (by intro c h; cases h) (ex_alloc39 rfl) ?_); simp only [Act.put, List.setIfInBounds_toArray, List.set_cons_succ, List.set_cons_zero]) | ((refine inS (fun _ => trivial) (by rfl) (by intro c h; cases h) (ex_store (t := 38) (vs := x.2.cs) rfl rfl rfl rfl (by simp [DD.cs, VV.cs, Value.oneCell']) siz39 (Holds.new X1 zeroD.cs 38) (Nat.le_refl _)) ?_); rw [← hX2]; simp only [Act.put, List.setIfInBounds_toArray, List.set_cons_succ, List.set_cons_zero]))
    obtain ⟨⟨v, hv, hrow, -⟩, hbn, hB⟩ := unhide hI2
    have hsz := hB.size
    refine (unhide HK) _ X2 (KeepsFrom.of_grownBy hg2 (fun j e => by cases e)) ⟨hb2.mono hsz, hb2.block _ hbn.lt⟩ ⟨⟨v, hv.kept hg2 (by simp), own_block hrow (fun g hg => hb2.block g (World.ownsRow.lt hrow g hg).2), trivial⟩, hbn.kept hg2 (by simp), hB.trans (hb2.mono hsz)⟩ ⟨W.heap.size, X1.heap.size, rfl, p2.block (q1.block _ (by omega)), q2⟩
  case body =>
    rintro l pre x a' W hl2 hloop ⟨⟨v, hv, hrow, -⟩, hbn, hB⟩ ⟨Bk, Bd, rfl, hk, hd⟩ hlen
    have Hk := hide hk
    have Hd := hide hd
    have Hv := hide hv
    have Hrow := hide hrow
    have Hbn := hide hbn
    have HB := hide hB
    clear hk hd hv hrow hbn hB hloop
    refine wpIn_block ?_
    refine wpIn_region_lit ?_
    refine inV (fun _ => trivial) (by rfl) (by intro c h; cases h) (ex_loadC (B := wm.heap.size) (p := 0) (v := v) 46 Tryz.isAgg46 rfl rfl (unhide Hv).cell) ?_
    simp only [Act.put, List.setIfInBounds_toArray, List.set_cons_succ, List.set_cons_zero]
    refine inV (fun _ => trivial) (by rfl) (by intro c h; cases h) (ex_loadN (B := Bk) (p := 0) (cs := x.1.cs) (vs := x.1.cs) 26 2 row33x siz33 rfl rfl (unhide Hk) rfl rfl) ?_
    simp only [Act.put, List.setIfInBounds_toArray, List.set_cons_succ, List.set_cons_zero]
    refine inV (fun _ => trivial) (by rfl) (by intro c h; cases h) (ex_loadN (B := Bd) (p := 0) (cs := x.2.cs) (vs := x.2.cs) 38 18 row39 siz39 rfl rfl (unhide Hd) rfl rfl) ?_
    simp only [Act.put, List.setIfInBounds_toArray, List.set_cons_succ, List.set_cons_zero]
    refine inV (fun _ => trivial) (by rfl) (by intro c h; cases h) (ex_build58 (k := x.1) (d := x.2) rfl rfl rfl) ?_
    simp only [Act.put, List.setIfInBounds_toArray, List.set_cons_succ, List.set_cons_zero]
    refine inV (fun _ => trivial) (by rfl) (by intro c h; cases h) (ex_buildS (t := 46) (e := 53) (v := .agg (x.1.cs ++ x.2.cs).toArray) (cs := x.1.cs ++ x.2.cs) rfl rfl Tryz.underlying46 info58w (by decide) rfl rfl (by decide)) ?_
    simp only [Act.put, List.setIfInBounds_toArray, List.set_cons_succ, List.set_cons_zero]
    refine appI (v := v) (B := W.heap.size) (m := 1) (c := 1) (fun _ => trivial) (by rfl) rfl rfl rfl Tryz.underlying46 info58w rfl (by decide) ((unhide Hrow).alloc _) (Holds.new W (x.1.cs ++ x.2.cs) 53) rfl (by simp [KK.cs, DD.cs, VV.cs, Value.oneCell']) (by omega) (by decide) (by have := (unhide HB).size; simp; omega) ?_
    intro A c' w4 ho4 hg4
    have HA := hide ((unhide Hv).appended (by decide) (unhide Hrow) (unhide HB).size hms ho4 hg4)
    have HG := hide hg4
    clear ho4 hg4
    simp only [Act.put, List.setIfInBounds_toArray, List.set_cons_succ, List.set_cons_zero]
    refine inS (fun _ => trivial) (by rfl) (by intro c h; cases h) (ex_store (t := 46) (b := wm.heap.size) (p := 0) (cs := [v]) (vs := [.slice A (pre.length + 1) c']) rfl rfl rfl rfl (by simp [Value.oneCell']) siz61 (boxed_holds (unhide HA).1) (Nat.le_refl _)) ?_
    simp only [Act.put, List.setIfInBounds_toArray, List.set_cons_succ, List.set_cons_zero]
    refine wpListIn_nil ?_
    obtain ⟨h1, h2, h3, h4, h5⟩ := unhide HA
    have hbn := unhide Hbn
    have hB := unhide HB
    have hne : some (wm.heap.size + 1) ≠ v.ownBlock := hbn.not_row (by decide) (unhide Hrow)
    have eb : (w4.setCell ⟨wm.heap.size, 0, none⟩ (Value.slice A (pre.length + 1) c')).heap[wm.heap.size + 1]? = W.heap[wm.heap.size + 1]? := by
      rw [Below.heap_setCell _ _ _ _ (by show wm.heap.size + 1 ≠ wm.heap.size; omega), (unhide HG).block _ (by have := hbn.lt; simp; omega) hne, Below.heap_alloc _ _ _ hbn.lt]
    refine ⟨h4.from _, ⟨h5, eb⟩, ⟨⟨_, h2, ?_, trivial⟩, eb.trans hbn, hB.trans h5⟩⟩
    rw [flatP_append, flatP_one, List.length_append]
    exact h3
  case done =>
    rintro D ys W hD rfl ⟨⟨v, hv, hrow, -⟩, hbn, hB⟩ hK
    have hc := hv.cell
    gi_wp2
    refine ⟨by simp, .inl ⟨_, _, rfl, run_takeDeferred hK, ?_⟩⟩
    refine ⟨_, results_tmp rfl _ _ _, _, rfl, ?_, hB.trans (belowK_b (w := w1) (Nat.le_refl _) W D _ _ (by simp at hD; omega) hK rfl rfl)⟩
    have := ownsRow_putObj hrow (.deferred none) hK rfl
    simpa using this
  case stop =>
    rintro D c pre W _ _ h _
    exact h.elim
end
end Go.Proofs.YtmgflhhealdfoaaGreatDoor
namespace Go.Proofs.YtmgflhhealdfoaaGreatDoor
set_option maxHeartbeats 1000000
section
open Go Go.Proofs Go.Maps Go.RowKit
theorem pair_inj {α β : Type} {f : α → β} {l : List α} (h : l.Pairwise (fun a b => f a ≠ f b)) {a b : α} (ha : a ∈ l) (hb : b ∈ l) (he : f a = f b) : a = b := by
  induction l with
  | nil => cases ha
  | cons x l ih =>
    obtain ⟨h1, h2⟩ := List.pairwise_cons.1 h
    rcases List.mem_cons.1 ha with e1 | ha'
    · rcases List.mem_cons.1 hb with e2 | hb'
      · rw [e1, e2]
      · rw [e1] at he
        exact absurd he (h1 b hb')
    · rcases List.mem_cons.1 hb with e2 | hb'
      · rw [e2] at he
        exact absurd he.symm (h1 a ha')
      · exact ih h2 ha' hb'
set_option linter.unusedSimpArgs false
set_option linter.unusedVariables false
set_option maxHeartbeats 1000000
theorem good_ok {k : KK} (h : goodK k = true) : OkK k := by
  have h1 := goodK_size h
  have h2 := goodK_n h
  refine ⟨by unfold maxLen; omega, ?_⟩
  show (decide (IntKind.i64.min ≤ k.n) && decide (k.n ≤ IntKind.i64.max)) = true
  have e1 : IntKind.i64.min = -9223372036854775808 := by decide
  have e2 : IntKind.i64.max = 9223372036854775807 := by decide
  rw [e1, e2, Bool.and_eq_true]
  exact ⟨decide_eq_true (by omega), decide_eq_true (by omega)⟩
theorem own_mono {w : World} {base base' e s n : Nat} {v : Value} {xs : List Value} (h : w.ownsRow base e s v n xs) (hb : base' ≤ base) : w.ownsRow base' e s v n xs := by
  obtain ⟨h1, h2⟩ := h
  refine ⟨h1, ?_⟩
  rcases h2 with h2 | ⟨g, cap, cur, rfl, h3, h4⟩
  · exact .inl h2
  · exact .inr ⟨g, cap, cur, rfl, Nat.le_trans hb h3, h4⟩
structure TApart (T : TT) : Prop where
  tm : T.t ≠ T.m
  tv : ∀ g, T.rv.ownBlock = some g → g ≠ T.t ∧ g ≠ T.m ∧ g ∉ T.rows.map (·.b)
  tr : T.t ∉ T.rows.map (·.b)
  mr : T.m ∉ T.rows.map (·.b)
  rr : (T.rows.map (·.b)).Nodup
theorem TT.apart {T : TT} (h : T.blocks.Nodup) : TApart T := by
  unfold TT.blocks at h
  rw [List.nodup_cons, List.nodup_cons, List.nodup_append] at h
  obtain ⟨h1, h2, h3, h4, h5⟩ := h
  simp only [List.mem_cons, List.mem_append, not_or] at h1 h2
  refine ⟨h1.1, fun g hg => ⟨fun e => h1.2.1 (by rw [hg, e]; simp), fun e => h2.1 (by rw [hg, e]; simp), fun hm => h5 g (by rw [hg]; simp) g hm rfl⟩, h1.2.2, h2.2, h4⟩
theorem rows_pair {T : TT} (h : TApart T) : T.rows.Pairwise (fun a b => a.b ≠ b.b) := by
  have := h.rr
  unfold List.Nodup at this
  rwa [List.pairwise_map] at this
theorem live_mem {T : TT} {r : RR} (h : r ∈ T.live) : r ∈ T.rows := (List.mem_filter.1 h).1
/-- Of the rows that stand: the one block is the one key's. -/
theorem block_key {T : TT} {w : World} (hT : T.Is w) {r q : RR} (hr : r ∈ T.live) (hq : q ∈ T.live) : q.b = r.b ↔ q.k = r.k := by
  constructor
  · intro e
    rw [pair_inj (f := RR.b) (rows_pair (TT.apart hT.nd)) (live_mem hq) (live_mem hr) e]
  · intro e
    rw [pair_inj (f := RR.k) hT.keys hq hr e]
