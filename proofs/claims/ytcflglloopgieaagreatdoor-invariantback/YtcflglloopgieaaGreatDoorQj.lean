import Derived.Test.YtcflglloopgieaaGreatDoorQi
import Derived.Test.YtcflglloopgieaaGreatDoorQc
import Derived.ProofKit
import Derived.OpenShut
import Derived.Lib.SmallJoins
import Derived.Deep.Slices
import Derived.SizedLaws

/-! Oc -/
namespace Go.Proofs.YtcflglloopgieaaGreatDoor
open Go Go.Proofs Go.Maps Go.RowKit FM
set_option linter.unusedSimpArgs false
set_option linter.unusedVariables false
set_option maxHeartbeats 1000000
theorem alG {ops : Array Oper} {rest : List Oper} {Q : Exit → Act → World → Prop} {w w0 : World} {a : Act} {o : Oper} {E : List Nat} {L : List (Nat × List Value)} (t : TypeId) (cs : List Value) (hw : Region.wanted o (yielded ops a.tmps) = true) (ho : o.op = .alloc t) (hz : ∀ w, (zeroValue t).run Tryz.prog w = .ok (.agg cs.toArray) w) (hc : 0 < cs.length) (hL : Hq w0 w E L)
    (h : ∀ X B, B = w.heap.size → Hq w0 X E (L ++ [(B, cs)]) → Below w.heap.size w X → wpList Tryz.prog ops Q rest (a.put o.dst (.pointer (some ⟨B, 0, none⟩))) X) : wpList Tryz.prog ops Q (o :: rest) a w := by
  refine BigFrame.wpList_want hw fun K hK => ?_
  have hP := hK _ _ (h _ _ rfl (hL.new cs t hc) ((Below.refl _ _).alloc (Nat.le_refl _) _))
  unfold Oper.wp execOp
  simp only [ho]
  simp [go_sem, hz, Value.cells]
  exact hP
theorem ret_c {fn : Func} {R : Ending → World → Prop} {a : Act} {w : World} {b r T n : Nat} {cs : List Value} (hT : ∃ d, Tryz.prog.underlying T = some d ∧ d.isRow = true) (hn : (Tryz.prog.info? T).map (·.size) = some n) (hr : fn.results = #[.cell r T]) (hdf : a.defers = [])
    (hx : a.tmps.getD r undef = .pointer (some ⟨b, 0, none⟩)) (hc : Holds w b cs) (hcs : cs.length = n) (h : R (.returned (.agg cs.toArray)) w) : bodyPost Tryz.prog fn R .ret a w := by
  obtain ⟨t, hu, hd⟩ := hT
  have h0 := hc.mid 0 n
  rw [List.drop_zero, List.take_of_length_le (by omega)] at h0
  have hl := run_loadVar_mid (P := Tryz.prog) w b 0 T _ t h0 hu hd (by rw [hn, hcs])
  refine ⟨hdf, _, ?_, h⟩
  simp only [Array.getD_eq_getD_getElem?] at hx
  unfold results
  simp [hr, hx, hl, asAddr]
  try rfl
theorem ex_lenG {o : Oper} {a : Act} {w : World} {m : Operand} {A : Option Addr} {n c : Nat} (t e : TypeId) (ht : Tryz.prog.underlying t = some (.slice e)) (ho : o.op = .call { callee := .builtin .len, args := #[m], argTypes := #[t] }) (hm : a.eval m = .slice A n c) : (execOp a.eval o).run Tryz.prog w = .ok (.value (.int .i64 (n : Nat))) w := by
  simp [execOp, ho, resolve, invoke, builtin, hm, Builtin.len_, Result.andThen, goInt, ht, run_underlying ht]
theorem ex_eqYes {o : Oper} {a : Act} {w : World} {x y : Operand} {n m : Int} (ho : o.op = .binOp .eql 3 x y 3) (hx : a.eval x = .int .i64 n) (hc : a.eval y = .int .i64 m) (h : n = m) : (execOp a.eval o).run Tryz.prog w = .ok (.value (.bool true)) w := by
  unfold execOp
  simp only [ho, hx, hc]
  simp [go_sem, eqGuard, h]
theorem rangeAt_fr {w X : World} {b p : Nat} {cs : List Value} (h : w.rangeAt b p cs) (hb : b < w.heap.size) (hf : Fr w X []) : X.rangeAt b p cs := fun j v hv => by
  have e := h j v hv
  have h1 := hf.block b hb (by simp)
  unfold World.cell? at e ⊢
  dsimp only at e ⊢
  rw [h1]
  exact e
theorem ex_eqNo {o : Oper} {a : Act} {w : World} {x y : Operand} {n m : Int} (ho : o.op = .binOp .eql 3 x y 3) (hx : a.eval x = .int .i64 n) (hc : a.eval y = .int .i64 m) (h : n ≠ m) : (execOp a.eval o).run Tryz.prog w = .ok (.value (.bool false)) w := by
  unfold execOp
  simp only [ho, hx, hc]
  simp [go_sem, eqGuard, h]
/-- A property: its key, and its descriptor. -/
structure PR where
  k : KK
  d : DD
def PR.cs (p : PR) : List Value := p.k.cs ++ p.d.cs
def PR.agg (p : PR) : Value := .agg p.cs.toArray
/-- A shape: class, prototype, extensible, properties. -/
structure SH where
  c : Int
  p : VV
  x : Bool
  ps : List PR
def SH.cs (s : SH) (A : Option Addr) (cap : Nat) : List Value := [.int .i64 s.c] ++ s.p.cs ++ [.bool s.x, .slice A s.ps.length cap]
def SH.agg (s : SH) (A : Option Addr) (cap : Nat) : Value := .agg (s.cs A cap).toArray
theorem pcs_length (p : PR) : p.cs.length = 20 := rfl
theorem vagg (v : VV) : v.agg = .agg v.cs.toArray := rfl
theorem dagg (v : DD) : v.agg = .agg v.cs.toArray := rfl
theorem kagg (v : KK) : v.agg = .agg v.cs.toArray := rfl
theorem pcs_one (p : PR) : ∀ u ∈ p.cs, u.oneCell' = true := by simp [PR.cs, KK.cs, DD.cs, Value.oneCell']
theorem shcs_one (p : SH) (A : Option Addr) (cap : Nat) : ∀ u ∈ p.cs A cap, u.oneCell' = true := by simp [SH.cs, VV.cs, Value.oneCell']
theorem vcs_one (v : VV) : ∀ u ∈ v.cs, u.oneCell' = true := by simp [VV.cs, Value.oneCell']
def OkP (p : PR) : Prop := FD p.d ∧ OkK p.k
/-- A slice whose elements are these properties. -/
def ReadsP (w : World) (A : Option Addr) (l : List PR) : Prop := ∀ j p, l[j]? = some p → OkP p ∧ ∃ b off, A = some ⟨b, off, none⟩ ∧ b < w.heap.size ∧ w.rangeAt b (off + j * 20) p.cs
/-- A slice whose elements are these shapes. -/
def ReadsS (w : World) (A : Option Addr) (l : List SH) : Prop := ∀ j s, l[j]? = some s → s.p.x < 2 ^ 64 ∧ s.ps.length ≤ 733007751850 ∧ ∃ b off SA cap, A = some ⟨b, off, none⟩ ∧ b < w.heap.size ∧ ReadsP w SA s.ps ∧ w.rangeAt b (off + j * 8) (s.cs SA cap)
theorem ReadsP.fr {w X : World} {A : Option Addr} {l : List PR} (h : ReadsP w A l) (hf : Fr w X []) : ReadsP X A l := fun j p hp => by
  obtain ⟨h1, b, off, h2, h3, h4⟩ := h j p hp
  exact ⟨h1, b, off, h2, Nat.lt_of_lt_of_le h3 hf.size, rangeAt_fr h4 h3 hf⟩
theorem ReadsS.fr {w X : World} {A : Option Addr} {l : List SH} (h : ReadsS w A l) (hf : Fr w X []) : ReadsS X A l := fun j p hp => by
  obtain ⟨h1, h6, b, off, SA, cap, h2, h3, h5, h4⟩ := h j p hp
  exact ⟨h1, h6, b, off, SA, cap, h2, Nat.lt_of_lt_of_le h3 hf.size, h5.fr hf, rangeAt_fr h4 h3 hf⟩
end Go.Proofs.YtcflglloopgieaaGreatDoor

/-! Od -/
namespace Go.Proofs.YtcflglloopgieaaGreatDoor
open Go Go.Proofs Go.Maps Go.RowKit FM
set_option linter.unusedSimpArgs false
set_option linter.unusedVariables false
instance decK : DecidableEq KK := fun a b => decidable_of_iff (a.s = b.s ∧ a.n = b.n) ⟨fun h => KK.ext' h.1 h.2, fun h => h ▸ ⟨rfl, rfl⟩⟩
def zeroP : PR := ⟨⟨⟨#[]⟩, 0⟩, zeroD⟩
def zeroS : SH := ⟨0, zeroV, false, []⟩
set_option linter.unusedSimpArgs false
set_option linter.unusedVariables false
set_option maxHeartbeats 1000000
theorem Hq.left {w X : World} {E : List Nat} {L M : List (Nat × List Value)} (h : Hq w X E (L ++ M)) : Hq w X E L := ⟨h.fr, fun q hq => h.all q (List.mem_append_left _ hq), by
  have := h.nd
  rw [List.map_append] at this
  exact (List.nodup_append.1 this).1⟩
set_option linter.unusedSimpArgs false
set_option linter.unusedVariables false
set_option maxHeartbeats 1000000
end Go.Proofs.YtcflglloopgieaaGreatDoor

/-! Ol -/
namespace Go.Proofs.YtcflglloopgieaaGreatDoor
open Go Go.Proofs Go.Maps Go.RowKit FM
set_option linter.unusedSimpArgs false
set_option linter.unusedVariables false
set_option maxHeartbeats 1000000
theorem eql41 (a b : KK) (w : World) : (binOp .eql 56 a.agg b.agg).run Tryz.prog w = .ok (.bool (decide (a = b))) w := by
  unfold KK.agg
  have ht : Tryz.prog.underlying 56 = some (.struct (Tryz.prog.fieldsOf 56)) := by kernel_rfl
  rw [run_eql_struct, show (10000 : Nat) = 9998 + 1 + 1 from rfl, run_equalIn_struct _ _ _ _ _ ht (by kernel_rfl)]
  have hf : Tryz.prog.fieldsOf 56 = (match Tryz.prog.underlying 56 with | some (.struct f) => f | _ => #[]) := by kernel_rfl
  rw [hf, Tryz.underlying56]
  simp [Op.eqFields, go_sem, part]
  by_cases h1 : a.s.toList = b.s.toList
  · by_cases h2 : a.n = b.n
    · rw [if_pos h1, if_pos h2, decide_eq_true (KK.ext' (toList_inj h1) h2)]
    · rw [if_pos h1, if_neg h2, decide_eq_false (fun e : a = b => h2 (congrArg KK.n e))]
  · rw [if_neg h1, decide_eq_false (fun e : a = b => h1 (congrArg (fun z : KK => z.s.toList) e))]
theorem ex_eql41 {o : Oper} {a : Act} {w : World} {x y : Operand} (k q : KK) (ho : o.op = .binOp .eql 56 x y 56) (hx : a.eval x = k.agg) (hy : a.eval y = q.agg) : (execOp a.eval o).run Tryz.prog w = .ok (.value (.bool (decide (k = q)))) w := by
  have e := eql41 k q w
  have e2 : (eqGuard .eql 56 x y k.agg q.agg).run Tryz.prog w = .ok () w := by kernel_rfl
  unfold execOp
  simp only [ho, hx, hy]
  simp [e, e2]
end Go.Proofs.YtcflglloopgieaaGreatDoor

/-! Or -/
namespace Go.Proofs.YtcflglloopgieaaGreatDoor
open Go Go.Proofs Go.Maps Go.RowKit FM
set_option linter.unusedSimpArgs false
set_option linter.unusedVariables false
set_option maxHeartbeats 1000000
theorem flat_len {α : Type} (f : α → List Value) (k : Nat) (hk : ∀ a, (f a).length = k) : ∀ l : List α, (l.flatMap f).length = l.length * k
  | [] => by simp
  | d :: l => by
    rw [List.flatMap_cons, List.length_append, hk, flat_len f k hk l, List.length_cons, Nat.add_mul, Nat.one_mul, Nat.add_comm]
theorem flat_get {α : Type} (f : α → List Value) (k : Nat) (hk : ∀ a, (f a).length = k) : ∀ (l : List α) (j t : Nat) (hj : j < l.length), t < k → (l.flatMap f)[j * k + t]? = (f l[j])[t]?
  | [], j, t, hj, _ => by simp at hj
  | d :: l, 0, t, hj, ht => by
    rw [List.flatMap_cons, Nat.zero_mul, Nat.zero_add, List.getElem?_append_left (by rw [hk]; exact ht)]
    simp
  | d :: l, j + 1, t, hj, ht => by
    have e : (j + 1) * k + t - k = j * k + t := by rw [Nat.add_mul]; omega
    rw [List.flatMap_cons, List.getElem?_append_right (by rw [hk, Nat.add_mul]; omega), hk, e, flat_get f k hk l j t (by simpa using hj) ht]
    simp
theorem own_row {α : Type} {f : α → List Value} {k : Nat} (hk : ∀ a, (f a).length = k) {W : World} {base T n : Nat} {v : Value} {l : List α} (h : W.ownsRow base T k v n (l.flatMap f)) (hn : l.length = n) (j : Nat) (hj : j < l.length) : ∃ g c, v = .slice (some ⟨g, 0, none⟩) n c ∧ base ≤ g ∧ g < W.heap.size ∧ W.rangeAt g (0 + j * k) (f l[j]) := by
  rcases h.2 with ⟨h1, h0⟩ | ⟨g, cap, cur, h1, h2, h3, h4, h5, h6, h7⟩
  · omega
  · refine ⟨g, cap, h1, h2, (Array.getElem?_eq_some_iff.1 h3).1, fun t u hu => ?_⟩
    have ht : t < k := by
      have := (List.getElem?_eq_some_iff.1 hu).1
      rwa [hk] at this
    have hlt : j * k + t < n * k := by
      have : (j + 1) * k ≤ n * k := Nat.mul_le_mul_right k (by omega)
      rw [Nat.add_mul] at this
      omega
    have h8 : (cur.toList.take (n * k))[j * k + t]? = (l.flatMap f)[j * k + t]? := by rw [h7]
    rw [List.getElem?_take, if_pos hlt, flat_get f k hk l j t hj ht, hu] at h8
    have e2 : cur[j * k + t]? = some u := by simpa using h8
    rw [Nat.zero_add]
    simp [World.cell?, h3, e2]
theorem own_blk {w w' : World} {base e s n : Nat} {v : Value} {xs : List Value} (h : w.ownsRow base e s v n xs) (he : ∀ g, v.ownBlock = some g → w'.heap[g]? = w.heap[g]?) : w'.ownsRow base e s v n xs := by
  obtain ⟨h1, h2⟩ := h
  refine ⟨h1, ?_⟩
  rcases h2 with h2 | ⟨g, cap, cur, rfl, h3, h4, h5⟩
  · exact .inl h2
  · exact .inr ⟨g, cap, cur, rfl, h3, (he g rfl).trans h4, h5⟩
theorem own_fr {w w' : World} {base e s n : Nat} {v : Value} {xs : List Value} (h : w.ownsRow base e s v n xs) (hf : Fr w w' []) : w'.ownsRow base e s v n xs := own_blk h (fun g hg => hf.block g (World.ownsRow.lt h g hg).2 (by simp))
theorem ReadsP.far {X Y : World} {A : Option Addr} {l : List PR} {E : List Nat} (h : ReadsP X A l) (hf : Fr X Y E) (hE : ∀ b off, A = some ⟨b, off, none⟩ → b ∉ E) : ReadsP Y A l := fun j p hp => by
  obtain ⟨h1, b, off, h2, h3, h4⟩ := h j p hp
  refine ⟨h1, b, off, h2, Nat.lt_of_lt_of_le h3 hf.size, fun t v hv => ?_⟩
  have e := h4 t v hv
  have hb := hf.block b h3 (hE b off h2)
  unfold World.cell? at e ⊢
  dsimp only at e ⊢
  rw [hb]
  exact e
def flatP (l : List PR) : List Value := l.flatMap PR.cs
theorem own_readsP {W : World} {base : Nat} {A : Option Addr} {c : Nat} {l : List PR} (hok : ∀ p ∈ l, OkP p) (h : W.ownsRow base 61 20 (.slice A l.length c) l.length (flatP l)) : ReadsP W A l := fun j p hp => by
  have hj := (List.getElem?_eq_some_iff.1 hp).1
  obtain ⟨g, c', h1, h2, h3, h4⟩ := own_row pcs_length h rfl j hj
  cases h1
  have e : l[j] = p := (List.getElem?_eq_some_iff.1 hp).2
  rw [e] at h4
  exact ⟨hok p (List.mem_of_getElem? hp), g, 0, rfl, h3, h4⟩
theorem inf46 : (Tryz.prog.info? 61).map (fun i => (i.zero, i.size, i.bytes)) = some (some zeroP.agg, 20, 192) := by kernel_rfl
theorem inf28 : (Tryz.prog.info? 34).map (fun i => (i.zero, i.size, i.bytes)) = some (some (zeroS.agg none 0), 8, 88) := by kernel_rfl
section
variable {ops : Array Oper} {rest : List Oper} {Q : Exit → Act → World → Prop} {a : Act} {w : World} {o : Oper}
end
/-- A shape of the copy, and where its properties lie. -/
structure CE where
  s : SH
  A : Option Addr
  cap : Nat
def CE.cs (e : CE) : List Value := e.s.cs e.A e.cap
theorem ce_length (e : CE) : e.cs.length = 8 := rfl
/-- So much of the copy stands. -/
structure CRow (w wr : World) (l : List SH) (cv : Value) (cl : List CE) : Prop where
  own : wr.ownsRow w.heap.size 34 8 cv cl.length (cl.flatMap CE.cs)
  all : ∀ (j : Nat) (e : CE), cl[j]? = some e → l[j]? = some e.s ∧ ReadsP wr e.A e.s.ps
  off : ∀ e : CE, e ∈ cl → ∀ b o, e.A = some ⟨b, o, none⟩ → b < wr.heap.size ∧ cv.ownBlock ≠ some b
  fr : Fr w wr []
theorem CRow.on {w wr X : World} {l : List SH} {cv : Value} {cl : List CE} (h : CRow w wr l cv cl) (hf : Fr wr X []) : CRow w X l cv cl :=
  ⟨own_fr h.own hf, fun j e he => ⟨(h.all j e he).1, (h.all j e he).2.fr hf⟩, fun e he b o hb => ⟨Nat.lt_of_lt_of_le (h.off e he b o hb).1 hf.size, (h.off e he b o hb).2⟩, h.fr.trans hf (by simp)⟩
theorem CRow.snoc {w X Y : World} {l : List SH} {cv cv' : Value} {cl : List CE} {e : CE} (h : CRow w X l cv cl) (ho : Y.ownsRow w.heap.size 34 8 cv' (cl.length + 1) (cl.flatMap CE.cs ++ e.cs)) (hg : X.grownBy Y cv.ownBlock) (hfr : Fresh X cv cv') (hl : l[cl.length]? = some e.s) (hp : ReadsP X e.A e.s.ps) (he : ∀ b o, e.A = some ⟨b, o, none⟩ → b < X.heap.size ∧ cv.ownBlock ≠ some b) : CRow w Y l cv' (cl ++ [e]) := by
  have hF : Fr X Y cv.ownBlock.toList := Fr.grown hg
  have hnew : ∀ b, b < X.heap.size → cv.ownBlock ≠ some b → cv'.ownBlock ≠ some b := fun b hb hc h2 => by
    rcases hfr with h3 | h3
    · exact hc (h3 ▸ h2)
    · rw [h3] at h2
      have : X.heap.size = b := Option.some.inj h2
      omega
  have hE : ∀ b, cv.ownBlock ≠ some b → b ∉ cv.ownBlock.toList := fun b hc hm => hc (by simpa using hm)
  refine ⟨by rw [List.length_append, List.flatMap_append]; simpa using ho, fun j q hq => ?_, fun q hq b o hb => ?_, h.fr.trans hF (fun b hb => .inr ?_)⟩
  · rcases Nat.lt_or_ge j cl.length with h1 | h1
    · rw [List.getElem?_append_left h1] at hq
      have h2 := h.all j q hq
      exact ⟨h2.1, h2.2.far hF (fun b o hb => hE b (h.off q (List.mem_of_getElem? hq) b o hb).2)⟩
    · rw [List.getElem?_append_right h1] at hq
      have h3 := (List.getElem?_eq_some_iff.1 hq).1
      have h4 : j = cl.length := by simp at h3; omega
      subst h4
      rw [Nat.sub_self] at hq
      obtain rfl : e = q := by simpa using hq
      exact ⟨hl, hp.far hF (fun b o hb => hE b (he b o hb).2)⟩
  · rcases List.mem_append.1 hq with h1 | h1
    · have h2 := h.off q h1 b o hb
      exact ⟨Nat.lt_of_lt_of_le h2.1 hF.size, hnew b h2.1 h2.2⟩
    · obtain rfl : q = e := by simpa using h1
      have h2 := he b o hb
      exact ⟨Nat.lt_of_lt_of_le h2.1 hF.size, hnew b h2.1 h2.2⟩
  · have hb2 : cv.ownBlock = some b := by simpa using hb
    exact (World.ownsRow.lt h.own b hb2).1
theorem CRow.reads {w wr : World} {l : List SH} {cv : Value} {cl : List CE} (h : CRow w wr l cv cl) (hl : cl.length = l.length) (hx : ∀ (j : Nat) (s : SH), l[j]? = some s → s.p.x < 2 ^ 64 ∧ s.ps.length ≤ 733007751850) : ∃ A c, cv = .slice A l.length c ∧ ReadsS wr A l := by
  obtain ⟨A, c, hf⟩ := own_form h.own
  refine ⟨A, c, by rw [hf, hl], fun j s hs => ?_⟩
  have hj : j < cl.length := by
    rw [hl]
    exact (List.getElem?_eq_some_iff.1 hs).1
  have he : cl[j]? = some cl[j] := List.getElem?_eq_getElem hj
  obtain ⟨h1, h2⟩ := h.all j _ he
  have e1 : cl[j].s = s := Option.some.inj (h1.symm.trans hs)
  obtain ⟨g, c2, h3, h4, h5, h6⟩ := own_row ce_length h.own rfl j hj
  rw [hf] at h3
  cases h3
  have h7 : wr.rangeAt g (0 + j * 8) (s.cs cl[j].A cl[j].cap) := e1 ▸ h6
  exact ⟨(hx j s hs).1, (hx j s hs).2, g, 0, cl[j].A, cl[j].cap, rfl, h5, e1 ▸ h2, h7⟩
end Go.Proofs.YtcflglloopgieaaGreatDoor

/-! Vo -/
namespace Go.Proofs.YtcflglloopgieaaGreatDoor
open Go.RowKit Go.WideShapes Go.ChangeShapes
theorem cellsOf24 : Tryz.prog.cellsOf 31 = 5 := by kernel_rfl
theorem cellsOf3 : Tryz.prog.cellsOf 3 = 1 := by kernel_rfl
theorem cellsOf4 : Tryz.prog.cellsOf 4 = 1 := by kernel_rfl
theorem cellsOf22 : Tryz.prog.cellsOf 29 = 1 := by kernel_rfl
theorem cellsOf9 : Tryz.prog.cellsOf 9 = 1 := by kernel_rfl
section
variable {H : Type} {enc : TypeId × Value → H} {P : Program} {W : World} {base : Nat} {sp : Nat → Bool} {held : Bool} {m : Nat} {c : Value} {x : DataW H × List MemPlace} {t : TypeId}
theorem cell_bool (hu : P.underlying t = some .bool) (h : DataW.trod enc P W base sp held m t [c] = some x) : ∃ b, c = .bool b ∧ x = (.lit (.bool b), []) := by
  cases m with
  | zero => simp [DataW.trod] at h
  | succ m =>
    unfold DataW.trod at h
    rw [hu] at h
    split at h <;> simp_all
theorem wf64 {b : Nat} (h : (Lit.float .f64 b).wf = true) : b < 2 ^ 64 := by
  unfold Lit.wf at h
  exact of_decide_eq_true h
theorem cell_float (hu : P.underlying t = some (.float .f64)) (h : DataW.trod enc P W base sp held m t [c] = some x) : ∃ b, c = .float .f64 b ∧ b < 2 ^ 64 ∧ x = (.lit (.float .f64 b), []) := by
  cases m with
  | zero => simp [DataW.trod] at h
  | succ m =>
    unfold DataW.trod at h
    rw [hu] at h
    split at h <;> simp_all
    rename_i e
    subst e
    exact wf64 h.1.2
theorem cell_string (hu : P.underlying t = some .string) (h : DataW.trod enc P W base sp held m t [c] = some x) : ∃ s, c = .string s ∧ s.size ≤ maxLen ∧ x = (.lit (.string s.data.toList), []) := by
  cases m with
  | zero => simp [DataW.trod] at h
  | succ m =>
    unfold DataW.trod at h
    rw [hu] at h
    split at h <;> simp_all
theorem cell_int (hu : P.underlying t = some (.int .i64)) (h : DataW.trod enc P W base sp held m t [c] = some x) : ∃ n, c = .int .i64 n ∧ (Lit.int .i64 n).wf = true ∧ x = (.lit (.int .i64 n), []) := by
  cases m with
  | zero => simp [DataW.trod] at h
  | succ m =>
    unfold DataW.trod at h
    rw [hu] at h
    split at h <;> simp_all
/-- Five cells that read as a value. -/
theorem cells_value' {f0 f1 f2 f3 f4 : Field} {cs : List Value} (hs : P.underlying t = some (.struct #[f0, f1, f2, f3, f4])) (hC : P.cellsOf t = 5)
    (o0 : f0.offset = 0) (o1 : f1.offset = 1) (o2 : f2.offset = 2) (o3 : f3.offset = 3) (o4 : f4.offset = 4)
    (u0 : P.underlying f0.type = some (.int .i64)) (u1 : P.underlying f1.type = some .bool) (u2 : P.underlying f2.type = some (.float .f64)) (u3 : P.underlying f3.type = some .string) (u4 : P.underlying f4.type = some (.int .i64))
    (s0 : P.cellsOf f0.type = 1) (s1 : P.cellsOf f1.type = 1) (s2 : P.cellsOf f2.type = 1) (s3 : P.cellsOf f3.type = 1) (s4 : P.cellsOf f4.type = 1)
    (h : DataW.trod enc P W base sp held m t cs = some x) :
    ∃ u : VV, cs = [.int .i64 u.k, .bool u.b, .float .f64 u.x, .string u.s, .int .i64 u.i] ∧ u.x < 2 ^ 64 ∧ u.s.size ≤ maxLen ∧ (Lit.int .i64 u.k).wf = true ∧ (Lit.int .i64 u.i).wf = true := by
  obtain ⟨xs, n, _, rfl, hl, hlen, hf⟩ := DataW.trod_struct hs h
  rw [hC] at hl
  match cs, hl with
  | [c0, c1, c2, c3, c4], _ =>
    have h0 := hf 0 _ rfl
    have h1 := hf 1 _ rfl
    have h2 := hf 2 _ rfl
    have h3 := hf 3 _ rfl
    have h4 := hf 4 _ rfl
    simp [s0, s1, s2, s3, s4, o0, o1, o2, o3, o4] at h0 h1 h2 h3 h4 hlen
    have g : ∀ j, j < 5 → ∃ y, xs[j]? = some y := fun j hj => ⟨_, List.getElem?_eq_getElem (by omega)⟩
    obtain ⟨y0, e0⟩ := g 0 (by omega)
    obtain ⟨y1, e1⟩ := g 1 (by omega)
    obtain ⟨y2, e2⟩ := g 2 (by omega)
    obtain ⟨y3, e3⟩ := g 3 (by omega)
    obtain ⟨y4, e4⟩ := g 4 (by omega)
    rw [e0] at h0
    rw [e1] at h1
    rw [e2] at h2
    rw [e3] at h3
    rw [e4] at h4
    obtain ⟨k, rfl, wk, -⟩ := cell_int u0 h0
    obtain ⟨b, rfl, -⟩ := cell_bool u1 h1
    obtain ⟨f, rfl, wf, -⟩ := cell_float u2 h2
    obtain ⟨s, rfl, ws, -⟩ := cell_string u3 h3
    obtain ⟨i, rfl, wi, -⟩ := cell_int u4 h4
    exact ⟨⟨k, b, f, s, i⟩, rfl, wf, ws, wk, wi⟩
end
set_option maxRecDepth 100000 in
theorem cells_value {H : Type} {enc : TypeId × Value → H} {W : World} {base : Nat} {sp : Nat → Bool} {held : Bool} {m : Nat} {x : DataW H × List MemPlace} {cs : List Value} (h : DataW.trod enc Tryz.prog W base sp held m 31 cs = some x) :
    ∃ u : VV, cs = [.int .i64 u.k, .bool u.b, .float .f64 u.x, .string u.s, .int .i64 u.i] ∧ u.x < 2 ^ 64 ∧ u.s.size ≤ maxLen ∧ (Lit.int .i64 u.k).wf = true ∧ (Lit.int .i64 u.i).wf = true :=
  cells_value' Tryz.underlying31 cellsOf24 rfl rfl rfl rfl rfl Tryz.underlying3 Tryz.underlying4 Tryz.underlying29 Tryz.underlying9 Tryz.underlying3 cellsOf3 cellsOf4 cellsOf22 cellsOf9 cellsOf3 h
end Go.Proofs.YtcflglloopgieaaGreatDoor

/-! Ot -/
namespace Go.Proofs.YtcflglloopgieaaGreatDoor
open Go.WideShapes Go.ChangeShapes Go Go.Proofs Go.Maps Go.RowKit FM
set_option linter.unusedSimpArgs false
set_option linter.unusedVariables false
set_option maxHeartbeats 1000000
theorem cellsOf44 : Tryz.prog.cellsOf 59 = 18 := by kernel_rfl
theorem cellsOf42 : Tryz.prog.cellsOf 57 = 1 := by kernel_rfl
theorem cellsOf41 : Tryz.prog.cellsOf 56 = 2 := by kernel_rfl
theorem cellsOf46 : Tryz.prog.cellsOf 61 = 20 := by kernel_rfl
theorem cellsOf28 : Tryz.prog.cellsOf 34 = 8 := by kernel_rfl
theorem cellsOf26 : Tryz.prog.cellsOf 32 = 1 := by kernel_rfl
section
variable {H : Type} {enc : TypeId × Value → H} {W : World} {base : Nat} {sp : Nat → Bool} {held : Bool} {m : Nat} {t : TypeId} {x : DataW H × List MemPlace}
set_option maxRecDepth 100000 in
theorem cells_desc' {f0 f1 f2 f3 f4 f5 : Field} {cs : List Value} (hs : Tryz.prog.underlying t = some (.struct #[f0, f1, f2, f3, f4, f5])) (hC : Tryz.prog.cellsOf t = 18)
    (o0 : f0.offset = 0) (o1 : f1.offset = 5) (o2 : f2.offset = 10) (o3 : f3.offset = 15) (o4 : f4.offset = 16) (o5 : f5.offset = 17)
    (t0 : f0.type = 31) (t1 : f1.type = 31) (t2 : f2.type = 31) (t3 : f3.type = 57) (t4 : f4.type = 57) (t5 : f5.type = 57)
    (h : DataW.trod enc Tryz.prog W base sp held m t cs = some x) : ∃ d : DD, cs = d.cs ∧ FD d := by
  obtain ⟨xs, n, _, rfl, hl, hlen, hf⟩ := DataW.trod_struct hs h
  rw [hC] at hl
  match cs, hl with
  | [c0, c1, c2, c3, c4, c5, c6, c7, c8, c9, c10, c11, c12, c13, c14, c15, c16, c17], _ =>
    have h0 := hf 0 _ rfl
    have h1 := hf 1 _ rfl
    have h2 := hf 2 _ rfl
    have h3 := hf 3 _ rfl
    have h4 := hf 4 _ rfl
    have h5 := hf 5 _ rfl
    simp [t0, t1, t2, t3, t4, t5, o0, o1, o2, o3, o4, o5, cellsOf24, cellsOf42] at h0 h1 h2 h3 h4 h5 hlen
    have g : ∀ j, j < 6 → ∃ y, xs[j]? = some y := fun j hj => ⟨_, List.getElem?_eq_getElem (by omega)⟩
    obtain ⟨y0, e0⟩ := g 0 (by omega)
    obtain ⟨y1, e1⟩ := g 1 (by omega)
    obtain ⟨y2, e2⟩ := g 2 (by omega)
    obtain ⟨y3, e3⟩ := g 3 (by omega)
    obtain ⟨y4, e4⟩ := g 4 (by omega)
    obtain ⟨y5, e5⟩ := g 5 (by omega)
    rw [e0] at h0
    rw [e1] at h1
    rw [e2] at h2
    rw [e3] at h3
    rw [e4] at h4
    rw [e5] at h5
    obtain ⟨v, q0, x0, z0, -⟩ := cells_value h0
    obtain ⟨g, q1, x1, -⟩ := cells_value h1
    obtain ⟨s, q2, x2, -⟩ := cells_value h2
    obtain ⟨a, q3, -⟩ := cell_int Tryz.underlying57 h3
    obtain ⟨e, q4, -⟩ := cell_int Tryz.underlying57 h4
    obtain ⟨c, q5, -⟩ := cell_int Tryz.underlying57 h5
    simp only [List.cons.injEq] at q0 q1 q2
    obtain ⟨rfl, rfl, rfl, rfl, rfl, -⟩ := q0
    obtain ⟨rfl, rfl, rfl, rfl, rfl, -⟩ := q1
    obtain ⟨rfl, rfl, rfl, rfl, rfl, -⟩ := q2
    subst q3 q4 q5
    exact ⟨⟨v, g, s, a, e, c⟩, rfl, x0, x1, x2⟩
set_option maxRecDepth 100000 in
theorem cells_desc {cs : List Value} (h : DataW.trod enc Tryz.prog W base sp held m 59 cs = some x) : ∃ d : DD, cs = d.cs ∧ FD d :=
  cells_desc' Tryz.underlying59 cellsOf44 rfl rfl rfl rfl rfl rfl rfl rfl rfl rfl rfl rfl h
set_option maxRecDepth 100000 in
theorem cells_key' {f0 f1 : Field} {cs : List Value} (hs : Tryz.prog.underlying t = some (.struct #[f0, f1])) (hC : Tryz.prog.cellsOf t = 2) (o0 : f0.offset = 0) (o1 : f1.offset = 1) (t0 : f0.type = 9) (t1 : f1.type = 3)
    (h : DataW.trod enc Tryz.prog W base sp held m t cs = some x) : ∃ k : KK, cs = k.cs ∧ OkK k := by
  obtain ⟨xs, n, _, rfl, hl, hlen, hf⟩ := DataW.trod_struct hs h
  rw [hC] at hl
  match cs, hl with
  | [c0, c1], _ =>
    have h0 := hf 0 _ rfl
    have h1 := hf 1 _ rfl
    simp [t0, t1, o0, o1, cellsOf9, cellsOf3] at h0 h1 hlen
    have g : ∀ j, j < 2 → ∃ y, xs[j]? = some y := fun j hj => ⟨_, List.getElem?_eq_getElem (by omega)⟩
    obtain ⟨y0, e0⟩ := g 0 (by omega)
    obtain ⟨y1, e1⟩ := g 1 (by omega)
    rw [e0] at h0
    rw [e1] at h1
    obtain ⟨s, rfl, hs1, -⟩ := cell_string Tryz.underlying9 h0
    obtain ⟨n, rfl, hn1, -⟩ := cell_int Tryz.underlying3 h1
    exact ⟨⟨s, n⟩, rfl, hs1, hn1⟩
set_option maxRecDepth 100000 in
theorem cells_key {cs : List Value} (h : DataW.trod enc Tryz.prog W base sp held m 56 cs = some x) : ∃ k : KK, cs = k.cs ∧ OkK k :=
  cells_key' Tryz.underlying56 cellsOf41 rfl rfl rfl rfl h
set_option maxRecDepth 100000 in
theorem cells_prop {cs : List Value} (h : DataW.trod enc Tryz.prog W base sp held m 61 cs = some x) : ∃ p : PR, cs = p.cs ∧ OkP p := by
  obtain ⟨y0, y1, n, rfl, hl, h0, h1⟩ := trod_struct2 Tryz.underlying61 h
  rw [cellsOf46] at hl
  simp only [cellsOf41, cellsOf44, List.drop_zero] at h0 h1
  obtain ⟨k, hk, hok⟩ := cells_key h0
  obtain ⟨d, hd, hfd⟩ := cells_desc h1
  refine ⟨⟨k, d⟩, ?_, hfd, hok⟩
  show cs = k.cs ++ d.cs
  rw [← hk, ← hd]
  have e : (cs.drop 2).take 18 = cs.drop 2 := List.take_of_length_le (by simp [hl])
  rw [e, List.take_append_drop]
end
theorem add_plain (b o i : Nat) : (Addr.add ⟨b, o, none⟩ i) = ⟨b, o + i, none⟩ := by
  unfold Addr.add
  by_cases h : i = 0
  · subst h; simp
  · simp [h]
theorem cell_spot' {w : World} {b o : Nat} {sp : Option Nat} {v : Value} (h : w.cell? ⟨b, o, sp⟩ = some v) : sp = none ∧ b < w.heap.size := by
  constructor
  · cases sp with
    | none => rfl
    | some s =>
      simp only [World.cell?] at h
      split at h <;> simp at h
  · rcases Nat.lt_or_ge b w.heap.size with h' | h'
    · exact h'
    · simp [World.cell?, Array.getElem?_eq_none h'] at h
/-- Rows of equal length, opened one by one. -/
theorem rows_of {α : Type} {f : α → List Value} {k : Nat} (hk : ∀ a, (f a).length = k) (h0 : 0 < k) {Pr : α → Prop} {W : World} {a : Addr} {n : Nat} (each : ∀ i, i < n → ∃ u : α, Pr u ∧ W.cells? 0 (a.add (i * k)) k = some (f u)) :
    ∃ l : List α, l.length = n ∧ ∀ (j : Nat) (u : α), l[j]? = some u → Pr u ∧ ∃ b off, a = ⟨b, off, none⟩ ∧ b < W.heap.size ∧ W.rangeAt b (off + j * k) (f u) := by
  have mk : ∀ q, q ≤ n → ∃ l : List α, l.length = q ∧ ∀ (i : Nat) (u : α), l[i]? = some u → Pr u ∧ W.cells? 0 (a.add (i * k)) k = some (f u) := by
    intro q
    induction q with
    | zero => exact fun _ => ⟨[], rfl, fun i u hu => by simp at hu⟩
    | succ q ih =>
      intro hq
      obtain ⟨l, hl, hl2⟩ := ih (by omega)
      obtain ⟨u, hu2⟩ := each q (by omega)
      refine ⟨l ++ [u], by simp [hl], fun i u' hu' => ?_⟩
      rcases Nat.lt_or_ge i l.length with h1 | h1
      · rw [List.getElem?_append_left h1] at hu'
        exact hl2 i u' hu'
      · rw [List.getElem?_append_right h1] at hu'
        have h3 := (List.getElem?_eq_some_iff.1 hu').1
        have h4 : i = q := by simp at h3; omega
        subst h4
        rw [hl, Nat.sub_self] at hu'
        obtain rfl : u = u' := by simpa using hu'
        exact hu2
  obtain ⟨l, hll, hlc⟩ := mk n (Nat.le_refl _)
  refine ⟨l, hll, fun j u hu => ⟨(hlc j u hu).1, ?_⟩⟩
  have h1 := (World.cells?_some (hlc j u hu).2).2.2
  obtain ⟨b, off, sp⟩ := a
  have hl0 : 0 < l.length := Nat.lt_of_le_of_lt (Nat.zero_le _) (List.getElem?_eq_some_iff.1 hu).1
  have h00 := (World.cells?_some (hlc 0 l[0] (List.getElem?_eq_getElem hl0)).2).2.2 0 h0
  have e0 : (Addr.add (Addr.add ⟨b, off, sp⟩ (0 * k)) 0) = ⟨b, off, sp⟩ := by simp [Addr.add]
  have hlen : 0 < (f l[0]).length := by rw [hk]; exact h0
  rw [e0, List.getElem?_eq_getElem hlen] at h00
  obtain ⟨rfl, hb⟩ := cell_spot' h00
  refine ⟨b, off, rfl, hb, fun t v hv => ?_⟩
  have ht : t < k := by
    have := (List.getElem?_eq_some_iff.1 hv).1
    rwa [hk] at this
  have h2 := h1 t ht
  rw [add_plain, add_plain] at h2
  rw [h2]
  exact hv
theorem bytes46 : Tryz.prog.bytesOf 61 = 192 := by kernel_rfl
section
variable {H : Type} {enc : TypeId × Value → H} {W : World} {m : Nat} {x : DataW H × List MemPlace}
theorem weights_all {P : Program} {e : TypeId} : ∀ {l : List (DataW H)} {d : DataW H}, d ∈ l → ∀ n ∈ d.weights P e, n ∈ DataW.weightsAll P e l
  | y :: l, d, hd, n, hn => by
    simp only [DataW.weightsAll, List.mem_append]
    rcases List.mem_cons.1 hd with rfl | hd
    · exact .inl hn
    · exact .inr (weights_all hd n hn)
end
end Go.Proofs.YtcflglloopgieaaGreatDoor
