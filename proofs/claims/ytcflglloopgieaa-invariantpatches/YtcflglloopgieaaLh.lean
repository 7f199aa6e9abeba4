import Derived.Test.YtcflglloopgieaaLg
namespace Go.Proofs.Ytcflglloopgieaa
open Go Go.Proofs Go.Maps Go.RowKit FM
set_option linter.unusedSimpArgs false
set_option linter.unusedVariables false
set_option maxHeartbeats 1000000

def flatL (l : List DL) : List Value := l.flatMap DL.cs
theorem dlcs_length (c : DL) : c.cs.length = 29 := by simp [DL.cs, VV.cs, KK.cs, DD.cs]
theorem flatL_one (l : List DL) : ∀ u ∈ flatL l, u.oneCell' = true := fun u hu => by
  obtain ⟨d, _, hd⟩ := List.mem_flatMap.1 hu
  exact dlcs_one d u hd
theorem infL : (Try.prog.info? 35).map (fun i => (i.zero, i.size, i.bytes)) = some (some zeroL.agg, 29, 272) := by kernel_rfl
theorem noneL (w : World) : (Instr.buildSlice 23 0 #[]).run Try.prog w = .ok (.slice (some ⟨w.heap.size, 0, none⟩) 0 0) (w.alloc (Obj.cells #[] 35)) := by kernel_rfl
/-- A row of deltas is put behind one's own row. -/
theorem ex_appL {o : Oper} {a : Act} {w : World} {c base k : Nat} {A : Option Addr} {v : Value} {xs : List Value} {l : List DL} {s x : Operand} (ho : o.op = .call { callee := .builtin .append, args := #[s, x], argTypes := #[23, 23] }) (hs : a.eval s = v) (hx : a.eval x = .slice A l.length c)
    (hown : w.ownsRow base 35 29 v k xs) (hR : ReadsL w A l) (hc : A = none → c = 0) (hn : k + l.length ≤ 1000000) (hbase : base ≤ w.heap.size) :
    ∃ A' c' w', (execOp a.eval o).run Try.prog w = .ok (.value (.slice A' (k + l.length) c')) w' ∧ w'.ownsRow base 35 29 (.slice A' (k + l.length) c') (k + l.length) (xs ++ flatL l) ∧ w.grownBy w' v.ownBlock ∧ Fresh w v (.slice A' (k + l.length) c') := by
  obtain ⟨i0, hi', hz0, hz1, hz2⟩ := info_parts infL
  cases A with
  | none =>
    have hl : l = [] := by
      cases l with
      | nil => rfl
      | cons p r =>
        obtain ⟨_, b, off, h1, _⟩ := hR 0 p rfl
        cases h1
    subst hl
    have hc0 := hc rfl
    subst hc0
    obtain ⟨A0, c0, rfl⟩ := own_form hown
    have hrun := run_append_owned_none (P := Try.prog) (w := w) base 23 o.type 35 i0 29 Try.underlying23 hi' (.slice A0 k c0) k xs hown
    refine ⟨A0, c0, w, ?_, by simpa [flatL] using hown, ⟨rfl, rfl, rfl, Nat.le_refl _, fun _ _ _ => rfl⟩, .inl rfl⟩
    have hx' : a.eval x = .slice none 0 0 := hx
    simp [execOp, ho, resolve, invoke, builtin, hs, hx', hrun, Result.andThen]
  | some ad =>
    have hnews : ∀ j u, (flatL l)[j]? = some u → w.cell? (ad.add j) = some u := fun j u hu => by
      have hj := (List.getElem?_eq_some_iff.1 hu).1
      unfold flatL at hj hu
      rw [flat_len DL.cs 29 dlcs_length] at hj
      have hq : j / 29 < l.length := by omega
      obtain ⟨_, b, off, h1, h2, h3⟩ := hR (j / 29) l[j / 29] (List.getElem?_eq_getElem hq)
      cases h1
      have e : j = j / 29 * 29 + j % 29 := by omega
      have h4 : (l.flatMap DL.cs)[j / 29 * 29 + j % 29]? = (l[j / 29]).cs[j % 29]? := flat_get DL.cs 29 dlcs_length l (j / 29) (j % 29) hq (by omega)
      rw [← e, hu] at h4
      have h5 := h3 (j % 29) u h4.symm
      rw [Addr.add_mid]
      rwa [show off + j / 29 * 29 + j % 29 = off + j by omega] at h5
    obtain ⟨v', w', hrun, h2, h3, h4⟩ := append_fresh w base 23 o.type 35 i0 _ 29 272 Try.underlying23 hi' hz0 hz1 hz2 rfl (by omega) v k xs hown ad l.length c (flatL l) (by unfold flatL; rw [flat_len DL.cs 29 dlcs_length]) hnews (flatL_one l) (by unfold maxLen; omega) (Nat.le_trans (Nat.mul_le_mul hn (Nat.le_refl 272)) (by decide)) hbase
    obtain ⟨A', c', rfl⟩ := own_form h2
    refine ⟨A', c', w', ?_, h2, h3, h4⟩
    simp [execOp, ho, resolve, invoke, builtin, hs, hx, hrun, Result.andThen]
section
variable {ops : Array Oper} {rest : List Oper} {Q : Exit → Act → World → Prop} {w w0 : World} {a : Act} {o : Oper} {E : List Nat} {L : List Ob}
theorem apL {c base k : Nat} {A : Option Addr} {v : Value} {xs : List Value} {l : List DL} {s x : Operand} (i : Nat) (hw : Region.wanted o (yielded ops a.tmps) = true) (ho : o.op = .call { callee := .builtin .append, args := #[s, x], argTypes := #[23, 23] }) (hs : a.eval s = v) (hx : a.eval x = .slice A l.length c) (hL : Sy w0 w E L)
    (hi : L[i]? = some (rowO base 35 29 v k xs)) (hR : ReadsL w A l) (hc : A = none → c = 0) (hn : k + l.length ≤ 1000000) (hbase : base ≤ w.heap.size)
    (h : ∀ A' c' X, Sy w0 X E (L.set i (rowO base 35 29 (.slice A' (k + l.length) c') (k + l.length) (xs ++ flatL l))) → wpList Try.prog ops Q rest (a.put o.dst (.slice A' (k + l.length) c')) X) : wpList Try.prog ops Q (o :: rest) a w := by
  obtain ⟨A', c', w', h1, h2, h3, h4⟩ := ex_appL ho hs hx (hL.get i hi) hR hc hn hbase
  refine BigFrame.wpList_want hw fun K hK => ?_
  have hP := hK _ _ (h A' c' w' (hL.row i hi h2 h3 h4))
  unfold Oper.wp
  rw [h1]
  exact hP
/-- An empty row. -/
theorem noL (base : Nat) (hb : base ≤ w.heap.size) (hw : Region.wanted o (yielded ops a.tmps) = true) (ho : o.op = .buildSlice 23 0 #[]) (hL : Sy w0 w E L)
    (h : ∀ X B, B = w.heap.size → Sy w0 X E (rowO base 35 29 (.slice (some ⟨B, 0, none⟩) 0 0) 0 [] :: L) → Below w.heap.size w X → wpList Try.prog ops Q rest (a.put o.dst (.slice (some ⟨B, 0, none⟩) 0 0)) X) : wpList Try.prog ops Q (o :: rest) a w :=
  noneG 23 35 29 base hb hw ho noneL (fun X B hB hO hb2 => h X B hB (hL.add (rowO_ok _ _ _ _ _ _) hO hb2 (fun b hb3 => by
    have : b = B := by simpa [rowO, Value.ownBlock, eq_comm] using hb3
    omega)).front hb2)
end
theorem sliceL (A : Option Addr) (n cap k : Nat) (hk : k ≤ n) (hn : n ≤ cap) (hA : A = none → n = 0) (w : World) : (Instr.sliceAt 23 (.slice A n cap) none (some (.int .i64 (k : Nat))) none).run Try.prog w = .ok (.slice A k cap) w := by
  rw [run_sliceAt_slice (h := by kernel_rfl), run_slice_h (ht := by kernel_rfl) (h0 := by omega) (h2 := by omega)]
  have e : (sizeOf (Try.prog.elem 23)).run Try.prog w = .ok 29 w := by kernel_rfl
  rw [e]
  cases A <;> simp [sliced, Addr.add, Result.andThen]
theorem ex_sliceL {o : Oper} {a : Act} {w : World} {x ix : Operand} {v u : Value} {p : Nat} (ho : o.op = .slice 23 x none (some ix) none) (hx : a.eval x = v) (hix : a.eval ix = .int .i64 (p : Nat)) (h : (Instr.sliceAt 23 v none (some (.int .i64 (p : Nat))) none).run Try.prog w = .ok u w) : (execOp a.eval o).run Try.prog w = .ok (.value u) w := by
  unfold execOp
  simp only [ho, hx, hix, Option.map_some, Option.map_none]
  simp [h]

def minusL : DL := ⟨-7, 0, 0, false, zeroV, ⟨⟨#[]⟩, 0⟩, zeroD⟩
theorem ex_bM {o : Oper} {a : Act} {w : World} {x : Operand} (ho : o.op = .build 35 #[(0, x)]) (hx : a.eval x = .int .i64 (-7)) : (execOp a.eval o).run Try.prog w = .ok (.value (.agg minusL.cs.toArray)) w := by
  have e : (Instr.build 35 #[(0, .int .i64 (-7))]).run Try.prog w = .ok (.agg minusL.cs.toArray) w := by kernel_rfl
  unfold execOp
  simp only [ho, List.map_toArray, List.map_cons, List.map_nil, hx]
  simp [e]
theorem own_readsL {W : World} {base n : Nat} {A : Option Addr} {c : Nat} {l m : List DL} (hg : ∀ d ∈ l, GL d) (h : W.ownsRow base 35 29 (.slice A n c) n (flatL (l ++ m))) (hn : (l ++ m).length = n) : ReadsL W A l := fun j d hd => by
  obtain ⟨hj, hje⟩ := List.getElem?_eq_some_iff.1 hd
  have hj2 : j < (l ++ m).length := by rw [List.length_append]; omega
  obtain ⟨g, c', h1, _, h3, h4⟩ := own_row dlcs_length h hn j hj2
  cases h1
  rw [List.getElem_append_left hj, hje] at h4
  exact ⟨hg d (List.mem_of_getElem? hd), g, 0, rfl, h3, h4⟩
theorem ReadsL.m {w : World} {A : Option Addr} {l : List DL} (h : ReadsL w A l) : ReadsM w A l := fun j d hd => by
  obtain ⟨h1, h2⟩ := h j d hd
  exact ⟨⟨h1.2.1, h1.2.2.1.1⟩, h2⟩
theorem ReadsL.fr {w X : World} {A : Option Addr} {l : List DL} (h : ReadsL w A l) (hf : Fr w X []) : ReadsL X A l := fun j p hp => by
  obtain ⟨h1, b, off, h2, h3, h4⟩ := h j p hp
  exact ⟨h1, b, off, h2, Nat.lt_of_lt_of_le h3 hf.size, rangeAt_fr h4 h3 hf⟩
theorem ReadsL.gl {w : World} {A : Option Addr} {l : List DL} (h : ReadsL w A l) : ∀ d ∈ l, GL d := fun d hd => by
  obtain ⟨j, hj⟩ := List.getElem?_of_mem hd
  exact (h j d hj).1
/-- A slice of shapes, with all that the copies ask. -/
def ReadsX (w : World) (A : Option Addr) (l : List SH) : Prop := ∀ j s, l[j]? = some s → SS s ∧ s.p.x < 2 ^ 64 ∧ s.ps.length ≤ 733007751850 ∧ ∃ b off SA cap, A = some ⟨b, off, none⟩ ∧ b < w.heap.size ∧ ReadsP w SA s.ps ∧ w.rangeAt b (off + j * 8) (s.cs SA cap) ∧ (SA = none → cap = 0) ∧ s.ps.length ≤ cap
theorem ReadsX.fr {w X : World} {A : Option Addr} {l : List SH} (h : ReadsX w A l) (hf : Fr w X []) : ReadsX X A l := fun j s hs => by
  obtain ⟨h0, h1, h2, b, off, SA, cap, h3, h4, h5, h6, h7⟩ := h j s hs
  exact ⟨h0, h1, h2, b, off, SA, cap, h3, Nat.lt_of_lt_of_le h4 hf.size, h5.fr hf, rangeAt_fr h6 h4 hf, h7⟩
theorem ReadsX.s {w : World} {A : Option Addr} {l : List SH} (h : ReadsX w A l) : ReadsS w A l := fun j s hs => by
  obtain ⟨_, h1, h2, b, off, SA, cap, h3, h4, h5, h6, _⟩ := h j s hs
  exact ⟨h1, h2, b, off, SA, cap, h3, h4, h5, h6⟩
theorem ReadsX.c {w : World} {A : Option Addr} {l : List SH} (h : ReadsX w A l) (hl : ∀ s ∈ l, s.ps.length ≤ 400) : ReadsC w A l := fun j s hs => by
  obtain ⟨_, h1, h2, b, off, SA, cap, h3, h4, h5, h6, h7, _⟩ := h j s hs
  exact ⟨h1, by have := hl s (List.mem_of_getElem? hs); omega, b, off, SA, cap, h3, h4, h5, h6, h7⟩
/-- What Copy gives. -/
def CPost (w : World) (l : List SH) (e : Ending) (X : World) : Prop := ∃ (A : Option Addr) (c : Nat) (cl : List CE), e = .returned (.slice A l.length c) ∧ Sy w X [] (shO w.heap.size (.slice A l.length c) cl) ∧ cl.map CE.s = l ∧ ∀ e ∈ cl, GC e
theorem copyL_any (A : Option Addr) (cap : Nat) (l : List SH) (w : World) (hR : ReadsC w A l) (hn : l.length ≤ 1000) : Calls Try.prog 5 #[.slice A l.length cap] w (CPost w l) := by
  refine (copyS_any A cap l w hR hn).mono ?_
  rintro e X ⟨v, cl, rfl, hS, hl, hg⟩
  obtain ⟨A', c', rfl⟩ := own_form (hS.get 0 rfl)
  have hlen : cl.length = l.length := by rw [← hl, List.length_map]
  rw [hlen] at hS ⊢
  exact ⟨A', c', cl, rfl, hS, hl, hg⟩
def erOf (r : Option (List SH)) : Int := match r with | none => 7 | some _ => 0
def PQ (w : World) (r : Option (List SH)) (e : Ending) (X : World) : Prop := ∃ (A : Option Addr) (c base : Nat) (cl : List CE), e = .returned (.tuple #[.slice A (r.getD []).length c, .int .i64 (erOf r)]) ∧ Sy w X [] (shO base (.slice A (r.getD []).length c) cl) ∧ cl.map CE.s = r.getD [] ∧ ∀ e ∈ cl, GC e
theorem PQ.of {w : World} {r : Option (List SH)} {e : Ending} {X : World} (h : PPost w r e X) : PQ w r e X := by
  obtain ⟨v, er, base, cl, rfl, hS, hg, h⟩ := h
  obtain ⟨A', c', rfl⟩ := own_form (hS.get 0 rfl)
  rcases h with ⟨rfl, rfl, rfl⟩ | ⟨rfl, rfl⟩
  · exact ⟨A', c', base, [], rfl, hS, rfl, hg⟩
  · have hlen : cl.length = (cl.map CE.s).length := by rw [List.length_map]
    rw [hlen] at hS ⊢
    exact ⟨A', c', base, cl, rfl, hS, rfl, hg⟩
theorem shO_reads {w X : World} {E : List Nat} {base c : Nat} {A : Option Addr} {cl : List CE} {m : List SH} (h : Sy w X E (shO base (.slice A m.length c) cl)) (hm : cl.map CE.s = m) (hg : ∀ e ∈ cl, GC e) : ReadsS X A m := by
  obtain ⟨A', c', hv, _, hR⟩ := h.reads hg
  rw [hm] at hR
  obtain ⟨rfl, _, _⟩ : A = A' ∧ _ ∧ _ := by simpa using hv
  exact hR
theorem shO_readsU {w X : World} {E : List Nat} {base c : Nat} {A : Option Addr} {cl : List CE} {m : List SH} (h : Sy w X E (shO base (.slice A m.length c) cl)) (hm : cl.map CE.s = m) (hg : ∀ e ∈ cl, GC e) (hs : ∀ s ∈ m, SS s ∧ s.ps.length ≤ 400) : ReadsU X A m := by
  subst hm
  have hlen : (cl.map CE.s).length = cl.length := List.length_map ..
  rw [hlen] at h
  intro j s hj
  have hsm := hs s (List.mem_of_getElem? hj)
  rw [List.getElem?_map] at hj
  obtain ⟨e, he, rfl⟩ := Option.map_eq_some_iff.1 hj
  obtain ⟨hj, hje⟩ := List.getElem?_eq_some_iff.1 he
  obtain ⟨g, c', h1, _, h3, h4⟩ := own_row ce_length (h.get 0 rfl) rfl j hj
  cases h1
  rw [hje] at h4
  have hmem := List.mem_of_getElem? he
  have hge := hg e hmem
  have hrp : (rowP base e).P X := h.ho _ (List.mem_cons_of_mem _ (List.mem_map.2 ⟨e, hmem, rfl⟩))
  exact ⟨hsm.1, hge.1, hsm.2, g, 0, e.A, e.cap, rfl, h3, own_readsP hge.2.2 hrp, h4, own_cap hrp⟩
/-- What lies in newer blocks than those that change. -/
theorem Sy.far {w X Y : World} {E : List Nat} {L : List Ob} (h : Sy w X [] L) (hf : Fr X Y E) (hE : ∀ b ∈ E, b < w.heap.size) : Sy w Y E L :=
  ⟨(h.fr.mono (fun b hb => by cases hb)).trans hf (fun b hb => .inl hb), h.ok, fun o ho => (h.ok o ho).on (fun b hb => by
    have h1 : w.heap.size ≤ b := by
      rcases h.lo o ho b hb with h2 | h2
      · cases h2
      · exact h2
    exact hf.block b ((h.ok o ho).lt (h.ho o ho) b hb) (fun h2 => by have := hE b h2; omega)) (h.ho o ho), fun o ho b hb => (h.lo o ho b hb).imp (fun h2 => by cases h2) id, h.dis⟩
theorem bs_range {w X : World} {L : List Ob} (h : Sy w X [] L) : ∀ b ∈ bsAll L, w.heap.size ≤ b ∧ b < X.heap.size := fun b hb => by
  obtain ⟨o, ho, hb⟩ := List.mem_flatMap.1 hb
  refine ⟨?_, (h.ok o ho).lt (h.ho o ho) b hb⟩
  rcases h.lo o ho b hb with h2 | h2
  · cases h2
  · exact h2
end Go.Proofs.Ytcflglloopgieaa
