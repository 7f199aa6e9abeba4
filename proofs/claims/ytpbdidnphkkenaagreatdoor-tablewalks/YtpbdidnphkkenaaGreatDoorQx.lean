import Derived.Test.YtpbdidnphkkenaaGreatDoorQw
import Derived.RangeFuncKeeps
set_option linter.all false
namespace Go.Proofs.YtpbdidnphkkenaaGreatDoor
set_option maxHeartbeats 2000000
section
open Go Go.Proofs Go.Maps Go.RowKit
theorem from_cons (m : Nat) (r : RR) : ∀ (l : List RR), l.Pairwise (fun a b => a.n < b.n) → l.find? (after m) = some r → l.filter (after m) = r :: l.filter (after r.n)
  | [], _, h => by cases h
  | q :: t, hp, h => by
    obtain ⟨h1, h2⟩ := List.pairwise_cons.1 hp
    by_cases hq : after m q = true
    · rw [List.find?_cons_of_pos hq] at h
      obtain rfl := Option.some.inj h
      have e0 : after q.n q = false := by simp [after]
      rw [List.filter_cons_of_pos hq, List.filter_cons_of_neg (by simp [e0])]
      congr 1
      apply List.filter_congr
      intro x hx
      have h3 := h1 x hx
      have h4 : m < q.n := by
        unfold after at hq
        simp at hq
        exact hq.1
      simp only [after]
      rw [decide_eq_true (by omega : m < x.n), decide_eq_true h3]
    · rw [List.find?_cons_of_neg hq] at h
      have hr : r ∈ t := List.mem_of_find?_eq_some h
      have h3 := h1 r hr
      rw [List.filter_cons_of_neg hq, from_cons m r t h2 h, List.filter_cons_of_neg (by simp [after]; omega)]
theorem from_nil (m : Nat) (l : List RR) (h : l.find? (after m) = none) : l.filter (after m) = [] := by
  rw [List.filter_eq_nil_iff]
  exact List.find?_eq_none.1 h
theorem from_zero {T : TT} {W : World} (hT : T.Is W) : T.rows.filter (after 0) = T.live := by
  unfold TT.live
  apply List.filter_congr
  intro r hr
  have := (hT.num r hr).1
  simp only [after]
  rw [decide_eq_true (by omega : 0 < r.n)]
  simp
theorem next_mem {T : TT} {m : Nat} {r : RR} (h : T.next m = some r) : r ∈ T.rows ∧ m < r.n ∧ r.gone = false := by
  have h1 := List.mem_of_find?_eq_some h
  have h2 := List.find?_some h
  simp [after] at h2
  exact ⟨h1, h2⟩
/-- What a row is to those who walk. -/
def RR.pr (r : RR) : KK × DD := (r.k, r.d)
def encP (x : KK × DD) : Array Value := #[x.1.agg, x.2.agg]
/-- How many are still to come: by what the walk holds. -/
def left (T : TT) : Value → Nat
  | .pointer (some a) => (match T.rows.find? (fun r => r.b == a.block) with
    | some r => (T.rows.filter (after r.n)).length + 1
    | none => 0)
  | _ => 0
theorem each41 (T : TT) (w : World) : Calls Tryz.prog 41 #[.pointer (some ⟨T.t, 0, none⟩)] w fun e w' => e = .returned (.func (.func 49) #[] #[.pointer (some ⟨w.heap.size, 0, none⟩)]) ∧ w' = w.alloc (Obj.cells #[.pointer (some ⟨T.t, 0, none⟩)] 26) := by
  go_enter Tryz.func41, Tryz.ntmps41
  go_wp2
  go_ret
  exact ⟨rfl, rfl⟩
section -- laws in the fence
variable {n : Nat} {md : Region.Mode} {ops : Array Oper} {Q : Exit → Act → World → Prop} {w : World} {fuel : Nat} {listed : Array Bool} {a : Act} {o : Oper}
theorem ip (i : Nat) (dst : Option Tmp) (v : Value) (hi : ops[i]? = some o) (hs : Region.noSelect ops = true) (hf : Region.free md ops listed i = true) (hr : (Region.ready md ops listed).contains i = true)
    (hQ : ∀ c a w, Q (.panic c) (a.put dst v) w → Q (.panic c) a w) (hd : o.dst = dst) (hw : Region.wanted o (yielded ops a.tmps) = true) (hy : ∀ w, (execOp a.eval o).run Tryz.prog w = .ok (.value v) w) (hab : ∀ w, o.about Tryz.prog w a.eval = none)
    (h : wpAnyIn Fence.wide n Tryz.prog md ops Q fuel (listed.setIfInBounds i true) (a.put dst v) w) : wpAnyIn Fence.wide n Tryz.prog md ops Q (fuel + 1) listed a w := by
  subst hd
  exact wpAnyIn_take rfl hi hs hf hr hQ ⟨Or.inl ⟨hw, hy⟩, hab⟩ h
theorem isk (i : Nat) (dst : Option Tmp) (hi : ops[i]? = some o) (hs : Region.noSelect ops = true) (hf : Region.free md ops listed i = true) (hr : (Region.ready md ops listed).contains i = true)
    (hQ : ∀ c a w, Q (.panic c) (a.put dst undef) w → Q (.panic c) a w) (hd : o.dst = dst) (hw : Region.wanted o (yielded ops a.tmps) = false) (hab : ∀ w, o.about Tryz.prog w a.eval = none)
    (h : wpAnyIn Fence.wide n Tryz.prog md ops Q fuel (listed.setIfInBounds i true) (a.put dst undef) w) : wpAnyIn Fence.wide n Tryz.prog md ops Q (fuel + 1) listed a w := by
  subst hd
  exact wpAnyIn_take rfl hi hs hf hr hQ ⟨Or.inr ⟨hw, rfl⟩, hab⟩ h
theorem ival (i : Nat) (dst : Option Tmp) {V : Value} {rs : List Nat} (hi : ops[i]? = some o) (hd : o.dst = dst) (hw : Region.wanted o (yielded ops a.tmps) = true) (he : (execOp a.eval o).run Tryz.prog w = .ok (.value V) w)
    (h : wpAnyIn Fence.wide n Tryz.prog md ops Q fuel (listed.setIfInBounds i true) (a.put dst V) w) (hs : AllReadyIn Fence.wide n Tryz.prog md ops Q fuel listed a w rs) : AllReadyIn Fence.wide n Tryz.prog md ops Q fuel listed a w (i :: rs) := by
  subst hd
  refine AllReadyIn.cons hi (fun K hK => ?_) hs
  rw [if_pos hw]
  refine ⟨fun _ _ => trivial, ?_⟩
  show o.uponIn Fence.wide n Tryz.prog a K Q ((execOp a.eval o).run Tryz.prog w)
  rw [he]
  exact hK _ _ h
theorem icall (i : Nat) (dst : Option Tmp) {f : FuncId} {args : Array Value} {R : Ending → World → Prop} {rs : List Nat} (hi : ops[i]? = some o) (hd : o.dst = dst) (hw : Region.wanted o (yielded ops a.tmps) = true) (he : (execOp a.eval o).run Tryz.prog w = .ok (.enter f args) w)
    (hC : Calls Tryz.prog f args w R) (h : ∀ e X, R e X → ∃ V, e = .returned V ∧ wpAnyIn Fence.wide n Tryz.prog md ops Q fuel (listed.setIfInBounds i true) (a.put dst V) X) (hs : AllReadyIn Fence.wide n Tryz.prog md ops Q fuel listed a w rs) : AllReadyIn Fence.wide n Tryz.prog md ops Q fuel listed a w (i :: rs) := by
  subst hd
  refine AllReadyIn.cons hi (fun K hK => ?_) hs
  rw [if_pos hw]
  refine ⟨fun _ _ => trivial, ?_⟩
  show o.uponIn Fence.wide n Tryz.prog a K Q ((execOp a.eval o).run Tryz.prog w)
  rw [he, Oper.uponIn_enter]
  refine ⟨(fun h => by cases h), (callsIn_wide.2 hC).mono ?_⟩
  intro e X hR
  obtain ⟨V, rfl, hV⟩ := h e X hR
  exact hK _ _ hV
theorem iround (i : Nat) (dst : Option Tmp) {l : Nat} {f : FuncId} {tmps : Array Value} {asg bd : Code} {R : Ending → World → Prop} {rs : List Nat} (hi : ops[i]? = some o) (hd : o.dst = dst) (hw : Region.wanted o (yielded ops a.tmps) = true) (he : (execOp a.eval o).run Tryz.prog w = .ok (.round l f tmps asg bd) w)
    (hC : RoundIn Fence.wide (n - 1) Tryz.prog l f tmps asg bd w R) (h : ∀ e X, R e X → ∃ V, e = .returned V ∧ wpAnyIn Fence.wide n Tryz.prog md ops Q fuel (listed.setIfInBounds i true) (a.put dst V) X) (hs : AllReadyIn Fence.wide n Tryz.prog md ops Q fuel listed a w rs) : AllReadyIn Fence.wide n Tryz.prog md ops Q fuel listed a w (i :: rs) := by
  subst hd
  refine AllReadyIn.cons hi (fun K hK => ?_) hs
  rw [if_pos hw]
  refine ⟨fun _ _ => trivial, ?_⟩
  show o.uponIn Fence.wide n Tryz.prog a K Q ((execOp a.eval o).run Tryz.prog w)
  rw [he, Oper.uponIn_round]
  refine ⟨(fun h => by cases h), hC.mono ?_⟩
  intro e X hR
  obtain ⟨V, rfl, hV⟩ := h e X hR
  exact hK _ _ hV
end
/-- What lies below n₀, and block Bn, is as it was. -/
def Kb (n₀ Bn : Nat) (W W' : World) : Prop := Below n₀ W W' ∧ W'.heap[Bn]? = W.heap[Bn]?
theorem left_row {T : TT} {W : World} (hT : T.Is W) {r : RR} (hr : r ∈ T.rows) : left T (.pointer (some ⟨r.b, 0, none⟩)) = (T.rows.filter (after r.n)).length + 1 := by
  have hnd := hT.nd
  simp only [TT.blocks, List.nodup_cons, List.mem_cons, List.mem_append, List.nodup_append, not_or] at hnd
  obtain ⟨-, -, -, h7, -⟩ := hnd
  have e : T.rows.find? (fun q => q.b == r.b) = some r := by
    cases h : T.rows.find? (fun q => q.b == r.b) with
    | none =>
      have := List.find?_eq_none.1 h r hr
      simp at this
    | some q =>
      have h1 := List.mem_of_find?_eq_some h
      have h2 := List.find?_some h
      have e2 : q.b = r.b := by simpa using h2
      rcases List.getElem?_of_mem h1 with ⟨i, hi⟩
      rcases List.getElem?_of_mem hr with ⟨j, hj⟩
      have e3 : (T.rows.map (·.b))[i]? = some r.b := by simp [hi, e2]
      have e4 : (T.rows.map (·.b))[j]? = some r.b := by simp [hj]
      have hij := (List.getElem?_inj (by simpa using (List.getElem?_eq_some_iff.1 hi).1) h7).1 (e3.trans e4.symm)
      subst hij
      rw [hi] at hj
      exact hj
  simp only [left, e]
theorem left_next {T : TT} {W : World} (hT : T.Is W) {m : Nat} : left T (pv ((T.next m).map (·.b))) = (T.rows.filter (after m)).length := by
  cases h : T.next m with
  | none => rw [from_nil m _ h]; rfl
  | some r =>
    rw [from_cons m r T.rows hT.rise h]
    exact left_row hT (next_mem h).1
theorem each_in (n : Nat) (hn : 1 ≤ n) (l Bn n₀ : Nat) (T : TT) (J Jx : List (KK × DD) → World → Prop)
    (W : World) (hAb : AbidesFrom W.heap.size J) (hT : T.Is W) (hlast : T.last < 4000000) (hlt : ∀ b ∈ T.blocks, b < n₀)
    (hY : ∀ pre x W, J pre W → pre.length < T.live.length → YieldAt Fence.wide (n - 1) Tryz.prog l (encP x) W fun e W' =>
      (e = .returned (.bool true) ∧ J (pre ++ [x]) W' ∧ Kb n₀ Bn W W') ∨ (e = .returned (.bool false) ∧ Jx (pre ++ [x]) W'))
    (hBn : W.cell? ⟨Bn, 0, none⟩ = some (.pointer (some ⟨T.t, 0, none⟩))) (h0 : J [] W) (hn₀ : n₀ ≤ W.heap.size) :
    CallsIn Fence.wide n Tryz.prog 49 #[.func (.yield l) #[] #[], .pointer (some ⟨Bn, 0, none⟩)] W fun e W' => (∃ v, e = .returned v) ∧
      ((∃ ys, ys = T.live.map RR.pr ∧ J ys W') ∨ (∃ pre, pre <+: T.live.map RR.pr ∧ Jx pre W')) := by
  have HN := hide (next50 T 0 W hT (by omega) (by omega))
  refine callsIn_of_wp Tryz.func49 rfl trivial ?_ rfl
  simp only [Tryz.ntmps49, List.size_toArray, List.length_cons, List.length_nil, Nat.reduceAdd, Nat.reduceSub, Array.replicate_succ, Array.replicate_zero, List.push_toArray, List.append_toArray, List.nil_append, List.cons_append]
  gi_wp2_with fail
  refine ⟨trivial, (callsIn_wide.2 (unhide HN)).mono ?_⟩
  rintro e w1 ⟨rfl, rfl⟩
  gi_wp2
  gi_loopw [3] (fun s3 wr => ∃ (pre : List (KK × DD)) (m : Nat), s3 = pv ((T.next m).map (·.b)) ∧ Hid (T.live.map RR.pr = pre ++ (T.rows.filter (after m)).map RR.pr) ∧ Hid (J pre wr) ∧ Hid (T.Is wr) ∧ wr.cell? ⟨Bn, 0, none⟩ = some (.pointer (some ⟨T.t, 0, none⟩)) ∧ Hid (n₀ ≤ wr.heap.size ∧ w1.heap.size ≤ wr.heap.size ∧ m ≤ T.last)) (fun s3 _ => left T s3)
  case atStart =>
    exact ⟨[], 0, rfl, hide (by rw [from_zero hT]; rfl), hide h0, hide hT, hBn, hide ⟨hn₀, Nat.le_refl _, Nat.zero_le _⟩⟩
  case round =>
    obtain ⟨pre, m, rfl, HX, HJ, HT, hc, HZ⟩ := hrel
    have HY := hide hY
    have HAb := hide hAb
    clear hY hAb h0 hBn hT HN
    cases hnx : T.next m with
    | none =>
      rw [show pv ((none : Option RR).map (·.b)) = .pointer none from rfl]
      gi_wp2
      refine wpIn_region_any (by kernel_rfl) ?_
      refine ip 0 (some 6) (.pointer none) rfl (by kernel_rfl) (by kernel_rfl) (by kernel_rfl) (fun _ _ _ h => h) (by kernel_rfl) (by kernel_rfl) (fun _ => by kernel_rfl) (fun _ => by kernel_rfl) ?_
      simp only [Act.put, nzA, nzB, nzC]
      refine ip 1 (some 7) (.bool false) rfl (by kernel_rfl) (by kernel_rfl) (by kernel_rfl) (fun _ _ _ h => h) (by kernel_rfl) (by kernel_rfl) (fun _ => by kernel_rfl) (fun _ => by kernel_rfl) ?_
      simp only [Act.put, nzA, nzB, nzC]
      refine ip 2 (some 8) (.bool false) rfl (by kernel_rfl) (by kernel_rfl) (by kernel_rfl) (fun _ _ _ h => h) (by kernel_rfl) (by kernel_rfl) (fun _ => by kernel_rfl) (fun _ => by kernel_rfl) ?_
      simp only [Act.put, nzA, nzB, nzC]
      refine isk 3 (some 9) rfl (by kernel_rfl) (by kernel_rfl) (by kernel_rfl) (fun _ _ _ h => h) (by kernel_rfl) (by kernel_rfl) (fun _ => by kernel_rfl) ?_
      simp only [Act.put, nzA, nzB, nzC]
      refine isk 4 (some 10) rfl (by kernel_rfl) (by kernel_rfl) (by kernel_rfl) (fun _ _ _ h => h) (by kernel_rfl) (by kernel_rfl) (fun _ => by kernel_rfl) ?_
      simp only [Act.put, nzA, nzB, nzC]
      refine isk 5 (some 11) rfl (by kernel_rfl) (by kernel_rfl) (by kernel_rfl) (fun _ _ _ h => h) (by kernel_rfl) (by kernel_rfl) (fun _ => by kernel_rfl) ?_
      simp only [Act.put, nzA, nzB, nzC]
      refine isk 6 (some 12) rfl (by kernel_rfl) (by kernel_rfl) (by kernel_rfl) (fun _ _ _ h => h) (by kernel_rfl) (by kernel_rfl) (fun _ => by kernel_rfl) ?_
      simp only [Act.put, nzA, nzB, nzC]
      refine isk 7 (some 13) rfl (by kernel_rfl) (by kernel_rfl) (by kernel_rfl) (fun _ _ _ h => h) (by kernel_rfl) (by kernel_rfl) (fun _ => by kernel_rfl) ?_
      simp only [Act.put, nzA, nzB, nzC]
      refine isk 8 (some 14) rfl (by kernel_rfl) (by kernel_rfl) (by kernel_rfl) (fun _ _ _ h => h) (by kernel_rfl) (by kernel_rfl) (fun _ => by kernel_rfl) ?_
      simp only [Act.put, nzA, nzB, nzC]
      refine isk 9 (some 15) rfl (by kernel_rfl) (by kernel_rfl) (by kernel_rfl) (fun _ _ _ h => h) (by kernel_rfl) (by kernel_rfl) (fun _ => by kernel_rfl) ?_
      simp only [Act.put, nzA, nzB, nzC]
      refine isk 10 (some 16) rfl (by kernel_rfl) (by kernel_rfl) (by kernel_rfl) (fun _ _ _ h => h) (by kernel_rfl) (by kernel_rfl) (fun _ => by kernel_rfl) ?_
      simp only [Act.put, nzA, nzB, nzC]
      refine isk 11 (some 17) rfl (by kernel_rfl) (by kernel_rfl) (by kernel_rfl) (fun _ _ _ h => h) (by kernel_rfl) (by kernel_rfl) (fun _ => by kernel_rfl) ?_
      simp only [Act.put, nzA, nzB, nzC]
      refine isk 12 (some 18) rfl (by kernel_rfl) (by kernel_rfl) (by kernel_rfl) (fun _ _ _ h => h) (by kernel_rfl) (by kernel_rfl) (fun _ => by kernel_rfl) ?_
      simp only [Act.put, nzA, nzB, nzC]
      refine isk 13 (some 19) rfl (by kernel_rfl) (by kernel_rfl) (by kernel_rfl) (fun _ _ _ h => h) (by kernel_rfl) (by kernel_rfl) (fun _ => by kernel_rfl) ?_
      simp only [Act.put, nzA, nzB, nzC]
      refine isk 14 (some 20) rfl (by kernel_rfl) (by kernel_rfl) (by kernel_rfl) (fun _ _ _ h => h) (by kernel_rfl) (by kernel_rfl) (fun _ => by kernel_rfl) ?_
      simp only [Act.put, nzA, nzB, nzC]
      refine ip 15 (some 21) (.bool false) rfl (by kernel_rfl) (by kernel_rfl) (by kernel_rfl) (fun _ _ _ h => h) (by kernel_rfl) (by kernel_rfl) (fun _ => by kernel_rfl) (fun _ => by kernel_rfl) ?_
      simp only [Act.put, nzA, nzB, nzC]
      refine wpAnyIn_done (by kernel_rfl) ?_ _
      try simp only [Act.put, nzA, nzB, nzC]
      gi_wp2
      go_end0
      refine ⟨⟨_, rfl⟩, .inl ⟨pre, ?_, ?_⟩⟩
      · rw [unhide HX, from_nil m _ hnx]; simp
      · exact (unhide HAb) pre wr wr.drew none (unhide HJ) (grown_of_below ((Below.refl _ _).drew)) (fun r e => by cases e)
    | some r =>
      rw [show pv ((some r : Option RR).map (·.b)) = .pointer (some ⟨r.b, 0, none⟩) from rfl]
      obtain ⟨hrm, hrn, hrg⟩ := next_mem hnx
      have HR := hide ((unhide HT).rows r hrm)
      have hfc := from_cons m r T.rows (unhide HT).rise hnx
      have hlv : T.live.length = pre.length + ((T.rows.filter (after r.n)).length + 1) := by
        have := congrArg List.length (unhide HX)
        rw [hfc] at this
        simpa using this
      have hJ1 := (unhide HAb) pre wr wr.drew none (unhide HJ) (grown_of_below ((Below.refl _ _).drew)) (fun r e => by cases e)
      obtain ⟨fn, tmps, asg, bd, hy, hRd⟩ := (unhide HY) pre r.pr wr.drew hJ1 (by omega)
      have HRd := hide hRd
      have Hy : Hid ((Instr.yield l #[r.k.agg, r.d.agg]).run Tryz.prog wr.drew = .ok (.round l fn tmps asg bd) wr.drew) := hide hy
      have Hfc := hide hfc
      have Hrn := hide (And.intro hrm (And.intro hrn hrg))
      clear hRd hy hJ1 hfc hlv hrm hrn hrg
      gi_wp2
      refine wpIn_region_any (by kernel_rfl) ?_
      refine ip 0 (some 6) (.pointer (some ⟨r.b, 0, none⟩)) rfl (by kernel_rfl) (by kernel_rfl) (by kernel_rfl) (fun _ _ _ h => h) (by kernel_rfl) (by kernel_rfl) (fun _ => by kernel_rfl) (fun _ => by kernel_rfl) ?_
      simp only [Act.put, nzA, nzB, nzC]
      refine ip 1 (some 7) (.bool true) rfl (by kernel_rfl) (by kernel_rfl) (by kernel_rfl) (fun _ _ _ h => h) (by kernel_rfl) (by kernel_rfl) (fun _ => by kernel_rfl) (fun _ => by kernel_rfl) ?_
      simp only [Act.put, nzA, nzB, nzC]
      refine ip 2 (some 8) (.bool true) rfl (by kernel_rfl) (by kernel_rfl) (by kernel_rfl) (fun _ _ _ h => h) (by kernel_rfl) (by kernel_rfl) (fun _ => by kernel_rfl) (fun _ => by kernel_rfl) ?_
      simp only [Act.put, nzA, nzB, nzC]
      refine ip 3 (some 9) (.func (.yield l) #[] #[]) rfl (by kernel_rfl) (by kernel_rfl) (by kernel_rfl) (fun _ _ _ h => h) (by kernel_rfl) (by kernel_rfl) (fun _ => by kernel_rfl) (fun _ => by kernel_rfl) ?_
      simp only [Act.put, nzA, nzB, nzC]
      refine ip 4 (some 10) (.pointer (some ⟨r.b, 0, none⟩)) rfl (by kernel_rfl) (by kernel_rfl) (by kernel_rfl) (fun _ _ _ h => h) (by kernel_rfl) (by kernel_rfl) (fun _ => by kernel_rfl) (fun _ => by kernel_rfl) ?_
      simp only [Act.put, nzA, nzB, nzC]
      refine ip 5 (some 11) (.pointer (some ⟨r.b, 0, none⟩)) rfl (by kernel_rfl) (by kernel_rfl) (by kernel_rfl) (fun _ _ _ h => h) (by kernel_rfl) (by kernel_rfl) (fun _ => by kernel_rfl) (fun _ => by kernel_rfl) ?_
      simp only [Act.put, nzA, nzB, nzC]
      refine ip 6 (some 12) (.pointer (some ⟨r.b, 0, none⟩)) rfl (by kernel_rfl) (by kernel_rfl) (by kernel_rfl) (fun _ _ _ h => h) (by kernel_rfl) (by kernel_rfl) (fun _ => by kernel_rfl) (fun _ => by kernel_rfl) ?_
      simp only [Act.put, nzA, nzB, nzC]
      refine ip 7 (some 13) (.pointer (some ⟨r.b, 0, none⟩)) rfl (by kernel_rfl) (by kernel_rfl) (by kernel_rfl) (fun _ _ _ h => h) (by kernel_rfl) (by kernel_rfl) (fun _ => by kernel_rfl) (fun _ => by kernel_rfl) ?_
      simp only [Act.put, nzA, nzB, nzC]
      refine ip 9 (some 15) (.pointer (some ⟨r.b, 0, none⟩)) rfl (by kernel_rfl) (by kernel_rfl) (by kernel_rfl) (fun _ _ _ h => h) (by kernel_rfl) (by kernel_rfl) (fun _ => by kernel_rfl) (fun _ => by kernel_rfl) ?_
      simp only [Act.put, nzA, nzB, nzC]
      refine ip 10 (some 16) (.pointer (some ⟨r.b, 0, none⟩)) rfl (by kernel_rfl) (by kernel_rfl) (by kernel_rfl) (fun _ _ _ h => h) (by kernel_rfl) (by kernel_rfl) (fun _ => by kernel_rfl) (fun _ => by kernel_rfl) ?_
      simp only [Act.put, nzA, nzB, nzC]
      refine ip 11 (some 17) (.pointer (some ⟨r.b, 0, none⟩)) rfl (by kernel_rfl) (by kernel_rfl) (by kernel_rfl) (fun _ _ _ h => h) (by kernel_rfl) (by kernel_rfl) (fun _ => by kernel_rfl) (fun _ => by kernel_rfl) ?_
      simp only [Act.put, nzA, nzB, nzC]
      refine ip 12 (some 18) (.pointer (some ⟨r.b, 2, none⟩)) rfl (by kernel_rfl) (by kernel_rfl) (by kernel_rfl) (fun _ _ _ h => h) (by kernel_rfl) (by kernel_rfl) (fun _ => by kernel_rfl) (fun _ => by kernel_rfl) ?_
      simp only [Act.put, nzA, nzB, nzC]
      refine wpAnyIn_ready (rs := [8, 13]) (by kernel_rfl) (by simp) (ival 8 (some 14) rfl (by kernel_rfl) (by kernel_rfl) (ex_loadN (vs := r.k.cs) 33 2 row33x siz33 rfl rfl ((Holds.block (unhide HR) rfl)) rfl rfl) ?_ (ival 13 (some 19) rfl (by kernel_rfl) (by kernel_rfl) (ex_loadN (vs := r.d.cs) 39 18 row39 siz39 rfl rfl ((Holds.block (unhide HR) rfl)) rfl rfl) ?_ AllReadyIn.nil))
      · simp only [Act.put, nzA, nzB, nzC]
        refine wpAnyIn_ready (rs := [13]) (by kernel_rfl) (by simp) (ival 13 (some 19) rfl (by kernel_rfl) (by kernel_rfl) (ex_loadN (vs := r.d.cs) 39 18 row39 siz39 rfl rfl ((Holds.block (unhide HR) rfl)) rfl rfl) ?_ AllReadyIn.nil)
        simp only [Act.put, nzA, nzB, nzC]
        refine wpAnyIn_ready (rs := [14]) (by kernel_rfl) (by simp) (iround 14 (some 20) rfl (by kernel_rfl) (by kernel_rfl) (Eq.trans (b := (Instr.yield l #[r.k.agg, r.d.agg]).run Tryz.prog wr.drew) (by kernel_rfl) (unhide Hy)) (unhide HRd) ?_ AllReadyIn.nil)
        rintro e W3 (⟨rfl, hJ3, hb3⟩ | ⟨rfl, hJx3⟩)
        · refine ⟨_, rfl, ?_⟩
          simp only [Act.put, nzA, nzB, nzC]
          refine ip 15 (some 21) (.bool true) rfl (by kernel_rfl) (by kernel_rfl) (by kernel_rfl) (fun _ _ _ h => h) (by kernel_rfl) (by kernel_rfl) (fun _ => by kernel_rfl) (fun _ => by kernel_rfl) ?_
          simp only [Act.put, nzA, nzB, nzC]
          refine wpAnyIn_done (by kernel_rfl) ?_ _
          try simp only [Act.put, nzA, nzB, nzC]
          have HT3 := hide ((unhide HT).block (fun b hb => hb3.1.block b (hlt b hb)))
          have hc3 : W3.cell? ⟨Bn, 0, none⟩ = some (.pointer (some ⟨T.t, 0, none⟩)) := (World.cell?_of_block (a := ⟨Bn, 0, none⟩) hb3.2).trans hc
          have HJ3 := hide hJ3
          have Hs3 := hide hb3.1.size
          clear hJ3 hb3
          gi_wp2
          refine wpIn_region_any (by kernel_rfl) ?_
          refine ip 1 (some 23) (.pointer (some ⟨r.b, 0, none⟩)) rfl (by kernel_rfl) (by kernel_rfl) (by kernel_rfl) (fun _ _ _ h => h) (by kernel_rfl) (by kernel_rfl) (fun _ => by kernel_rfl) (fun _ => by kernel_rfl) ?_
          simp only [Act.put, nzA, nzB, nzC]
          refine ip 2 (some 24) (.pointer (some ⟨r.b, 0, none⟩)) rfl (by kernel_rfl) (by kernel_rfl) (by kernel_rfl) (fun _ _ _ h => h) (by kernel_rfl) (by kernel_rfl) (fun _ => by kernel_rfl) (fun _ => by kernel_rfl) ?_
          simp only [Act.put, nzA, nzB, nzC]
          refine ip 3 (some 25) (.pointer (some ⟨r.b, 20, none⟩)) rfl (by kernel_rfl) (by kernel_rfl) (by kernel_rfl) (fun _ _ _ h => h) (by kernel_rfl) (by kernel_rfl) (fun _ => by kernel_rfl) (fun _ => by kernel_rfl) ?_
          simp only [Act.put, nzA, nzB, nzC]
          refine wpAnyIn_ready (rs := [0, 4]) (by kernel_rfl) (by simp) (ival 0 (some 22) rfl (by kernel_rfl) (by kernel_rfl) (ex_loadC (W := W3.drew) 26 Tryz.isAgg26 rfl rfl hc3) ?_ (ival 4 (some 26) rfl (by kernel_rfl) (by kernel_rfl) (ex_load1 71 Tryz.isAgg71 rfl rfl ((Holds.block ((unhide HT3).rows r (unhide Hrn).1) rfl : Holds W3.drew r.b r.cs)) rfl) ?_ AllReadyIn.nil))
          · simp only [Act.put, nzA, nzB, nzC]
            refine wpAnyIn_ready (rs := [4]) (by kernel_rfl) (by simp) (ival 4 (some 26) rfl (by kernel_rfl) (by kernel_rfl) (ex_load1 71 Tryz.isAgg71 rfl rfl ((Holds.block ((unhide HT3).rows r (unhide Hrn).1) rfl : Holds W3.drew r.b r.cs)) rfl) ?_ AllReadyIn.nil)
            simp only [Act.put, nzA, nzB, nzC]
            refine wpAnyIn_ready (rs := [5]) (by kernel_rfl) (by simp) (icall 5 (some 27) rfl (by kernel_rfl) (by kernel_rfl) (by kernel_rfl) (next50 T r.n W3.drew (unhide HT3).drew (by omega) (by have := ((unhide HT3).num r (unhide Hrn).1).2; omega)) ?_ AllReadyIn.nil)
            rintro e X ⟨rfl, rfl⟩
            refine ⟨_, rfl, ?_⟩
            simp only [Act.put, nzA, nzB, nzC]
            refine ip 6 (some 3) (pv ((T.next r.n).map (·.b))) rfl (by kernel_rfl) (by kernel_rfl) (by kernel_rfl) (fun _ _ _ h => h) (by kernel_rfl) (by kernel_rfl) (fun _ => by kernel_rfl) (fun _ => by kernel_rfl) ?_
            simp only [Act.put, nzA, nzB, nzC]
            refine wpAnyIn_done (by kernel_rfl) ?_ _
            try simp only [Act.put, nzA, nzB, nzC]
            gi_wp2
            go_roundw
            case rel =>
              refine ⟨pre ++ [r.pr], r.n, rfl, hide ?_, hide ?_, hide (unhide HT3).drew, hc3, hide ?_⟩
              · rw [unhide HX, unhide Hfc]; simp
              · exact (unhide HAb) _ W3 W3.drew none (unhide HJ3) (grown_of_below ((Below.refl _ _).drew)) (fun r e => by cases e)
              · have h1 := unhide HZ; have h2 : wr.heap.size ≤ W3.heap.size := unhide Hs3; have h3 := ((unhide HT3).num r (unhide Hrn).1).2; exact ⟨Nat.le_trans h1.1 h2, Nat.le_trans h1.2.1 h2, h3⟩
            case measure =>
              rw [left_next (unhide HT3), left_row (unhide HT3) (unhide Hrn).1]
              exact Nat.lt_succ_self _
          · simp only [Act.put, nzA, nzB, nzC]
            refine wpAnyIn_ready (rs := [0]) (by kernel_rfl) (by simp) (ival 0 (some 22) rfl (by kernel_rfl) (by kernel_rfl) (ex_loadC (W := W3.drew) 26 Tryz.isAgg26 rfl rfl hc3) ?_ AllReadyIn.nil)
            simp only [Act.put, nzA, nzB, nzC]
            refine wpAnyIn_ready (rs := [5]) (by kernel_rfl) (by simp) (icall 5 (some 27) rfl (by kernel_rfl) (by kernel_rfl) (by kernel_rfl) (next50 T r.n W3.drew (unhide HT3).drew (by omega) (by have := ((unhide HT3).num r (unhide Hrn).1).2; omega)) ?_ AllReadyIn.nil)
            rintro e X ⟨rfl, rfl⟩
            refine ⟨_, rfl, ?_⟩
            simp only [Act.put, nzA, nzB, nzC]
            refine ip 6 (some 3) (pv ((T.next r.n).map (·.b))) rfl (by kernel_rfl) (by kernel_rfl) (by kernel_rfl) (fun _ _ _ h => h) (by kernel_rfl) (by kernel_rfl) (fun _ => by kernel_rfl) (fun _ => by kernel_rfl) ?_
            simp only [Act.put, nzA, nzB, nzC]
            refine wpAnyIn_done (by kernel_rfl) ?_ _
            try simp only [Act.put, nzA, nzB, nzC]
            gi_wp2
            go_roundw
            case rel =>
              refine ⟨pre ++ [r.pr], r.n, rfl, hide ?_, hide ?_, hide (unhide HT3).drew, hc3, hide ?_⟩
              · rw [unhide HX, unhide Hfc]; simp
              · exact (unhide HAb) _ W3 W3.drew none (unhide HJ3) (grown_of_below ((Below.refl _ _).drew)) (fun r e => by cases e)
              · have h1 := unhide HZ; have h2 : wr.heap.size ≤ W3.heap.size := unhide Hs3; have h3 := ((unhide HT3).num r (unhide Hrn).1).2; exact ⟨Nat.le_trans h1.1 h2, Nat.le_trans h1.2.1 h2, h3⟩
            case measure =>
              rw [left_next (unhide HT3), left_row (unhide HT3) (unhide Hrn).1]
              exact Nat.lt_succ_self _
        · refine ⟨_, rfl, ?_⟩
          simp only [Act.put, nzA, nzB, nzC]
          refine ip 15 (some 21) (.bool false) rfl (by kernel_rfl) (by kernel_rfl) (by kernel_rfl) (fun _ _ _ h => h) (by kernel_rfl) (by kernel_rfl) (fun _ => by kernel_rfl) (fun _ => by kernel_rfl) ?_
          simp only [Act.put, nzA, nzB, nzC]
          refine wpAnyIn_done (by kernel_rfl) ?_ _
          try simp only [Act.put, nzA, nzB, nzC]
          have HJx := hide hJx3
          clear hJx3
          gi_wp2
          go_end0
          refine ⟨⟨_, rfl⟩, .inr ⟨pre ++ [r.pr], ?_, unhide HJx⟩⟩
          rw [unhide HX, unhide Hfc]
          exact ⟨(T.rows.filter (after r.n)).map RR.pr, by simp⟩
      · simp only [Act.put, nzA, nzB, nzC]
        refine wpAnyIn_ready (rs := [8]) (by kernel_rfl) (by simp) (ival 8 (some 14) rfl (by kernel_rfl) (by kernel_rfl) (ex_loadN (vs := r.k.cs) 33 2 row33x siz33 rfl rfl ((Holds.block (unhide HR) rfl)) rfl rfl) ?_ AllReadyIn.nil)
        simp only [Act.put, nzA, nzB, nzC]
        refine wpAnyIn_ready (rs := [14]) (by kernel_rfl) (by simp) (iround 14 (some 20) rfl (by kernel_rfl) (by kernel_rfl) (Eq.trans (b := (Instr.yield l #[r.k.agg, r.d.agg]).run Tryz.prog wr.drew) (by kernel_rfl) (unhide Hy)) (unhide HRd) ?_ AllReadyIn.nil)
        rintro e W3 (⟨rfl, hJ3, hb3⟩ | ⟨rfl, hJx3⟩)
        · refine ⟨_, rfl, ?_⟩
          simp only [Act.put, nzA, nzB, nzC]
          refine ip 15 (some 21) (.bool true) rfl (by kernel_rfl) (by kernel_rfl) (by kernel_rfl) (fun _ _ _ h => h) (by kernel_rfl) (by kernel_rfl) (fun _ => by kernel_rfl) (fun _ => by kernel_rfl) ?_
          simp only [Act.put, nzA, nzB, nzC]
          refine wpAnyIn_done (by kernel_rfl) ?_ _
          try simp only [Act.put, nzA, nzB, nzC]
          have HT3 := hide ((unhide HT).block (fun b hb => hb3.1.block b (hlt b hb)))
          have hc3 : W3.cell? ⟨Bn, 0, none⟩ = some (.pointer (some ⟨T.t, 0, none⟩)) := (World.cell?_of_block (a := ⟨Bn, 0, none⟩) hb3.2).trans hc
          have HJ3 := hide hJ3
          have Hs3 := hide hb3.1.size
          clear hJ3 hb3
          gi_wp2
          refine wpIn_region_any (by kernel_rfl) ?_
          refine ip 1 (some 23) (.pointer (some ⟨r.b, 0, none⟩)) rfl (by kernel_rfl) (by kernel_rfl) (by kernel_rfl) (fun _ _ _ h => h) (by kernel_rfl) (by kernel_rfl) (fun _ => by kernel_rfl) (fun _ => by kernel_rfl) ?_
          simp only [Act.put, nzA, nzB, nzC]
          refine ip 2 (some 24) (.pointer (some ⟨r.b, 0, none⟩)) rfl (by kernel_rfl) (by kernel_rfl) (by kernel_rfl) (fun _ _ _ h => h) (by kernel_rfl) (by kernel_rfl) (fun _ => by kernel_rfl) (fun _ => by kernel_rfl) ?_
          simp only [Act.put, nzA, nzB, nzC]
          refine ip 3 (some 25) (.pointer (some ⟨r.b, 20, none⟩)) rfl (by kernel_rfl) (by kernel_rfl) (by kernel_rfl) (fun _ _ _ h => h) (by kernel_rfl) (by kernel_rfl) (fun _ => by kernel_rfl) (fun _ => by kernel_rfl) ?_
          simp only [Act.put, nzA, nzB, nzC]
          refine wpAnyIn_ready (rs := [0, 4]) (by kernel_rfl) (by simp) (ival 0 (some 22) rfl (by kernel_rfl) (by kernel_rfl) (ex_loadC (W := W3.drew) 26 Tryz.isAgg26 rfl rfl hc3) ?_ (ival 4 (some 26) rfl (by kernel_rfl) (by kernel_rfl) (ex_load1 71 Tryz.isAgg71 rfl rfl ((Holds.block ((unhide HT3).rows r (unhide Hrn).1) rfl : Holds W3.drew r.b r.cs)) rfl) ?_ AllReadyIn.nil))
          · simp only [Act.put, nzA, nzB, nzC]
            refine wpAnyIn_ready (rs := [4]) (by kernel_rfl) (by simp) (ival 4 (some 26) rfl (by kernel_rfl) (by kernel_rfl) (ex_load1 71 Tryz.isAgg71 rfl rfl ((Holds.block ((unhide HT3).rows r (unhide Hrn).1) rfl : Holds W3.drew r.b r.cs)) rfl) ?_ AllReadyIn.nil)
            simp only [Act.put, nzA, nzB, nzC]
            refine wpAnyIn_ready (rs := [5]) (by kernel_rfl) (by simp) (icall 5 (some 27) rfl (by kernel_rfl) (by kernel_rfl) (by kernel_rfl) (next50 T r.n W3.drew (unhide HT3).drew (by omega) (by have := ((unhide HT3).num r (unhide Hrn).1).2; omega)) ?_ AllReadyIn.nil)
            rintro e X ⟨rfl, rfl⟩
            refine ⟨_, rfl, ?_⟩
            simp only [Act.put, nzA, nzB, nzC]
            refine ip 6 (some 3) (pv ((T.next r.n).map (·.b))) rfl (by kernel_rfl) (by kernel_rfl) (by kernel_rfl) (fun _ _ _ h => h) (by kernel_rfl) (by kernel_rfl) (fun _ => by kernel_rfl) (fun _ => by kernel_rfl) ?_
            simp only [Act.put, nzA, nzB, nzC]
            refine wpAnyIn_done (by kernel_rfl) ?_ _
            try simp only [Act.put, nzA, nzB, nzC]
            gi_wp2
            go_roundw
            case rel =>
              refine ⟨pre ++ [r.pr], r.n, rfl, hide ?_, hide ?_, hide (unhide HT3).drew, hc3, hide ?_⟩
              · rw [unhide HX, unhide Hfc]; simp
              · exact (unhide HAb) _ W3 W3.drew none (unhide HJ3) (grown_of_below ((Below.refl _ _).drew)) (fun r e => by cases e)
              · have h1 := unhide HZ; have h2 : wr.heap.size ≤ W3.heap.size := unhide Hs3; have h3 := ((unhide HT3).num r (unhide Hrn).1).2; exact ⟨Nat.le_trans h1.1 h2, Nat.le_trans h1.2.1 h2, h3⟩
            case measure =>
              rw [left_next (unhide HT3), left_row (unhide HT3) (unhide Hrn).1]
              exact Nat.lt_succ_self _
          · simp only [Act.put, nzA, nzB, nzC]
            refine wpAnyIn_ready (rs := [0]) (by kernel_rfl) (by simp) (ival 0 (some 22) rfl (by kernel_rfl) (by kernel_rfl) (ex_loadC (W := W3.drew) 26 Tryz.isAgg26 rfl rfl hc3) ?_ AllReadyIn.nil)
            simp only [Act.put, nzA, nzB, nzC]
            refine wpAnyIn_ready (rs := [5]) (by kernel_rfl) (by simp) (icall 5 (some 27) rfl (by kernel_rfl) (by kernel_rfl) (by kernel_rfl) (next50 T r.n W3.drew (unhide HT3).drew (by omega) (by have := ((unhide HT3).num r (unhide Hrn).1).2; omega)) ?_ AllReadyIn.nil)
            rintro e X ⟨rfl, rfl⟩
            refine ⟨_, rfl, ?_⟩
            simp only [Act.put, nzA, nzB, nzC]
            refine ip 6 (some 3) (pv ((T.next r.n).map (·.b))) rfl (by kernel_rfl) (by kernel_rfl) (by kernel_rfl) (fun _ _ _ h => h) (by kernel_rfl) (by kernel_rfl) (fun _ => by kernel_rfl) (fun _ => by kernel_rfl) ?_
            simp only [Act.put, nzA, nzB, nzC]
            refine wpAnyIn_done (by kernel_rfl) ?_ _
            try simp only [Act.put, nzA, nzB, nzC]
            gi_wp2
            go_roundw
            case rel =>
              refine ⟨pre ++ [r.pr], r.n, rfl, hide ?_, hide ?_, hide (unhide HT3).drew, hc3, hide ?_⟩
              · rw [unhide HX, unhide Hfc]; simp
              · exact (unhide HAb) _ W3 W3.drew none (unhide HJ3) (grown_of_below ((Below.refl _ _).drew)) (fun r e => by cases e)
              · have h1 := unhide HZ; have h2 : wr.heap.size ≤ W3.heap.size := unhide Hs3; have h3 := ((unhide HT3).num r (unhide Hrn).1).2; exact ⟨Nat.le_trans h1.1 h2, Nat.le_trans h1.2.1 h2, h3⟩
            case measure =>
              rw [left_next (unhide HT3), left_row (unhide HT3) (unhide Hrn).1]
              exact Nat.lt_succ_self _
        · refine ⟨_, rfl, ?_⟩
          simp only [Act.put, nzA, nzB, nzC]
          refine ip 15 (some 21) (.bool false) rfl (by kernel_rfl) (by kernel_rfl) (by kernel_rfl) (fun _ _ _ h => h) (by kernel_rfl) (by kernel_rfl) (fun _ => by kernel_rfl) (fun _ => by kernel_rfl) ?_
          simp only [Act.put, nzA, nzB, nzC]
          refine wpAnyIn_done (by kernel_rfl) ?_ _
          try simp only [Act.put, nzA, nzB, nzC]
          have HJx := hide hJx3
          clear hJx3
          gi_wp2
          go_end0
          refine ⟨⟨_, rfl⟩, .inr ⟨pre ++ [r.pr], ?_, unhide HJx⟩⟩
          rw [unhide HX, unhide Hfc]
          exact ⟨(T.rows.filter (after r.n)).map RR.pr, by simp⟩
