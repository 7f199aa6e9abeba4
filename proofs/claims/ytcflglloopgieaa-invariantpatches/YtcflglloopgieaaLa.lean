import Derived.Test.YtcflglloopgieaaKr
namespace Go.Proofs.Ytcflglloopgieaa
open Go Go.Proofs Go.Maps Go.RowKit FM
set_option linter.unusedSimpArgs false
set_option linter.unusedVariables false
set_option maxHeartbeats 1000000

def rowP (base : Nat) (e : CE) : Ob := rowO base 56 20 (.slice e.A e.s.ps.length e.cap) e.s.ps.length (flatP e.s.ps)
def rowS (base : Nat) (v : Value) (cl : List CE) : Ob := rowO base 48 8 v cl.length (cl.flatMap CE.cs)
/-- A row of shapes, and the row of properties of each. -/
def shO (base : Nat) (v : Value) (cl : List CE) : List Ob := rowS base v cl :: cl.map (rowP base)
def GC (e : CE) : Prop := e.s.p.x < 2 ^ 64 ∧ e.s.ps.length ≤ 100000 ∧ ∀ p ∈ e.s.ps, OkP p
theorem Sy.mono {w X : World} {E E' : List Nat} {L : List Ob} (h : Sy w X E L) (hE : ∀ b ∈ E, b ∈ E') : Sy w X E' L :=
  ⟨h.fr.mono (fun b hb => .inl (hE b hb)), h.ok, h.ho, fun o ho b hb => (h.lo o ho b hb).imp (hE b) id, h.dis⟩
theorem Sy.back {w X : World} {E : List Nat} {L : List Ob} {o : Ob} (h : Sy w X E (o :: L)) : Sy w X E (L ++ [o]) := h.perm (List.perm_append_singleton o L).symm
/-- From an earlier world. -/
theorem Sy.from {w w0 X : World} {L : List Ob} (h : Sy w X [] L) (hf : Fr w0 w []) : Sy w0 X [] L :=
  ⟨hf.trans h.fr (by simp), h.ok, h.ho, fun o ho b hb => .inr (by
    rcases h.lo o ho b hb with h1 | h1
    · cases h1
    · exact Nat.le_trans hf.size h1), h.dis⟩
theorem Sy.reads {w X : World} {E : List Nat} {base : Nat} {v : Value} {cl : List CE} (h : Sy w X E (shO base v cl)) (hg : ∀ e ∈ cl, GC e) : ∃ A c, v = .slice A cl.length c ∧ cl.length ≤ c ∧ ReadsS X A (cl.map CE.s) := by
  obtain ⟨A, c, hv⟩ := own_form (h.get 0 rfl)
  subst hv
  refine ⟨A, c, rfl, own_cap (h.get 0 rfl), fun j s hs => ?_⟩
  rw [List.getElem?_map] at hs
  obtain ⟨e, he, rfl⟩ := Option.map_eq_some_iff.1 hs
  obtain ⟨hj, hje⟩ := List.getElem?_eq_some_iff.1 he
  obtain ⟨g, c', h1, _, h3, h4⟩ := own_row ce_length (h.get 0 rfl) rfl j hj
  cases h1
  rw [hje] at h4
  have hmem := List.mem_of_getElem? he
  have hge := hg e hmem
  have hrp : (rowP base e).P X := h.ho _ (List.mem_cons_of_mem _ (List.mem_map.2 ⟨e, hmem, rfl⟩))
  exact ⟨hge.1, by have := hge.2.1; omega, g, 0, e.A, e.cap, rfl, h3, own_readsP hge.2.2 hrp, h4⟩
/-- A thing is replaced by one that was added. -/
theorem Sy.swap {w X : World} {E : List Nat} {L : List Ob} {o' : Ob} (h : Sy w X E (L ++ [o'])) (i : Nat) (hi : i < L.length) : Sy w X E (L.set i o') := by
  have e1 : L = L.take i ++ L[i] :: L.drop (i + 1) := by
    conv => lhs; rw [← List.take_append_drop i L, List.drop_eq_getElem_cons hi]
  have e2 : L.set i o' = L.take i ++ o' :: L.drop (i + 1) := by rw [List.set_eq_take_append_cons_drop, if_pos hi]
  have hp : (L ++ [o']).Perm (L[i] :: L.set i o') := by
    rw [e2]
    conv => lhs; rw [e1]
    refine (List.perm_append_singleton o' _).trans ?_
    refine ((List.Perm.cons o' List.perm_middle).trans (List.Perm.swap _ _ _)).trans ?_
    exact List.Perm.cons _ List.perm_middle.symm
  exact (h.perm hp).tail
theorem sliceT (A : Option Addr) (n cap k : Nat) (hk : k ≤ n) (hn : n ≤ cap) (hA : A = none → n = 0) (w : World) : (Instr.sliceAt 46 (.slice A n cap) none (some (.int .i64 (k : Nat))) none).run Try.prog w = .ok (.slice A k cap) w := by
  rw [run_sliceAt_slice (h := by kernel_rfl), run_slice_h (ht := by kernel_rfl) (h0 := by omega) (h2 := by omega)]
  have e : (sizeOf (Try.prog.elem 46)).run Try.prog w = .ok 20 w := by kernel_rfl
  rw [e]
  cases A <;> simp [sliced, Addr.add, Result.andThen]
theorem ex_sliceT {o : Oper} {a : Act} {w : World} {x ix : Operand} {v u : Value} {p : Nat} (ho : o.op = .slice 46 x none (some ix) none) (hx : a.eval x = v) (hix : a.eval ix = .int .i64 (p : Nat)) (h : (Instr.sliceAt 46 v none (some (.int .i64 (p : Nat))) none).run Try.prog w = .ok u w) : (execOp a.eval o).run Try.prog w = .ok (.value u) w := by
  unfold execOp
  simp only [ho, hx, hix, Option.map_some, Option.map_none]
  simp [h]
theorem reads_take {X : World} {A : Option Addr} {l : List PR} (n : Nat) (h : ReadsP X A l) : ReadsP X A (l.take n) := fun j p hp => by
  rw [List.getElem?_take] at hp
  split at hp
  · exact h j p hp
  · cases hp
/-- A row of properties is put behind one's own row. -/
theorem ex_appR {o : Oper} {a : Act} {w : World} {c base k : Nat} {A : Option Addr} {v : Value} {xs : List Value} {l : List PR} {s x : Operand} (ho : o.op = .call { callee := .builtin .append, args := #[s, x], argTypes := #[46, 46] }) (hs : a.eval s = v) (hx : a.eval x = .slice A l.length c)
    (hown : w.ownsRow base 56 20 v k xs) (hR : ReadsP w A l) (hc : A = none → c = 0) (hn : k + l.length ≤ 1000000) (hbase : base ≤ w.heap.size) :
    ∃ A' c' w', (execOp a.eval o).run Try.prog w = .ok (.value (.slice A' (k + l.length) c')) w' ∧ w'.ownsRow base 56 20 (.slice A' (k + l.length) c') (k + l.length) (xs ++ flatP l) ∧ w.grownBy w' v.ownBlock ∧ Fresh w v (.slice A' (k + l.length) c') := by
  obtain ⟨i0, hi', hz0, hz1, hz2⟩ := info_parts inf46
  cases A with
  | none =>
    have hl : l = [] := by
      cases l with
      | nil => rfl
      | cons p r =>
        obtain ⟨_, b, off, h1, _⟩ := hR 0 p rfl
        cases h1
    subst hl
    have hc0 := hc rfl
    subst hc0
    obtain ⟨A0, c0, rfl⟩ := own_form hown
    have hrun := run_append_owned_none (P := Try.prog) (w := w) base 46 o.type 56 i0 20 Try.underlying46 hi' (.slice A0 k c0) k xs hown
    refine ⟨A0, c0, w, ?_, by simpa [flatP] using hown, ⟨rfl, rfl, rfl, Nat.le_refl _, fun _ _ _ => rfl⟩, .inl rfl⟩
    have hx' : a.eval x = .slice none 0 0 := hx
    simp [execOp, ho, resolve, invoke, builtin, hs, hx', hrun, Result.andThen]
  | some ad =>
    have hnews : ∀ j u, (flatP l)[j]? = some u → w.cell? (ad.add j) = some u := fun j u hu => by
      have hj := (List.getElem?_eq_some_iff.1 hu).1
      unfold flatP at hj hu
      rw [flat_len PR.cs 20 pcs_length] at hj
      have hq : j / 20 < l.length := by omega
      obtain ⟨_, b, off, h1, h2, h3⟩ := hR (j / 20) l[j / 20] (List.getElem?_eq_getElem hq)
      cases h1
      have e : j = j / 20 * 20 + j % 20 := by omega
      have h4 : (l.flatMap PR.cs)[j / 20 * 20 + j % 20]? = (l[j / 20]).cs[j % 20]? := flat_get PR.cs 20 pcs_length l (j / 20) (j % 20) hq (by omega)
      rw [← e, hu] at h4
      have h5 := h3 (j % 20) u h4.symm
      rw [Addr.add_mid]
      rwa [show off + j / 20 * 20 + j % 20 = off + j by omega] at h5
    obtain ⟨v', w', hrun, h2, h3, h4⟩ := append_fresh w base 46 o.type 56 i0 _ 20 192 Try.underlying46 hi' hz0 hz1 hz2 rfl (by omega) v k xs hown ad l.length c (flatP l) (by unfold flatP; rw [flat_len PR.cs 20 pcs_length]) hnews (flatP_one l) (by unfold maxLen; omega) (Nat.le_trans (Nat.mul_le_mul hn (Nat.le_refl 192)) (by decide)) hbase
    obtain ⟨A', c', rfl⟩ := own_form h2
    refine ⟨A', c', w', ?_, h2, h3, h4⟩
    simp [execOp, ho, resolve, invoke, builtin, hs, hx, hrun, Result.andThen]
section
variable {ops : Array Oper} {rest : List Oper} {Q : Exit → Act → World → Prop} {w w0 : World} {a : Act} {o : Oper} {E : List Nat} {L : List Ob}
theorem apR {c base k : Nat} {A : Option Addr} {v : Value} {xs : List Value} {l : List PR} {s x : Operand} (i : Nat) (hw : Region.wanted o (yielded ops a.tmps) = true) (ho : o.op = .call { callee := .builtin .append, args := #[s, x], argTypes := #[46, 46] }) (hs : a.eval s = v) (hx : a.eval x = .slice A l.length c) (hL : Sy w0 w E L)
    (hi : L[i]? = some (rowO base 56 20 v k xs)) (hR : ReadsP w A l) (hc : A = none → c = 0) (hn : k + l.length ≤ 1000000) (hbase : base ≤ w.heap.size)
    (h : ∀ A' c' X, Sy w0 X E (L.set i (rowO base 56 20 (.slice A' (k + l.length) c') (k + l.length) (xs ++ flatP l))) → wpList Try.prog ops Q rest (a.put o.dst (.slice A' (k + l.length) c')) X) : wpList Try.prog ops Q (o :: rest) a w := by
  obtain ⟨A', c', w', h1, h2, h3, h4⟩ := ex_appR ho hs hx (hL.get i hi) hR hc hn hbase
  refine BigFrame.wpList_want hw fun K hK => ?_
  have hP := hK _ _ (h A' c' w' (hL.row i hi h2 h3 h4))
  unfold Oper.wp
  rw [h1]
  exact hP
/-- An empty row. -/
theorem noP (base : Nat) (hb : base ≤ w.heap.size) (hw : Region.wanted o (yielded ops a.tmps) = true) (ho : o.op = .buildSlice 46 0 #[]) (hL : Sy w0 w E L)
    (h : ∀ X B, B = w.heap.size → Sy w0 X E (rowO base 56 20 (.slice (some ⟨B, 0, none⟩) 0 0) 0 [] :: L) → Below w.heap.size w X → wpList Try.prog ops Q rest (a.put o.dst (.slice (some ⟨B, 0, none⟩) 0 0)) X) : wpList Try.prog ops Q (o :: rest) a w :=
  noneG 46 56 20 base hb hw ho none26 (fun X B hB hO hb2 => h X B hB (hL.add (rowO_ok _ _ _ _ _ _) hO hb2 (fun b hb3 => by
    have : b = B := by simpa [rowO, Value.ownBlock, eq_comm] using hb3
    omega)).front hb2)
end
theorem cesnoc (cl : List CE) (e : CE) : (cl ++ [e]).flatMap CE.cs = cl.flatMap CE.cs ++ e.cs := by simp
theorem shO_snoc (base : Nat) (v : Value) (cl : List CE) (e : CE) : shO base v (cl ++ [e]) = rowO base 48 8 v (cl.length + 1) (cl.flatMap CE.cs ++ e.cs) :: (cl.map (rowP base) ++ [rowP base e]) := by
  simp [shO, rowS]
end Go.Proofs.Ytcflglloopgieaa
