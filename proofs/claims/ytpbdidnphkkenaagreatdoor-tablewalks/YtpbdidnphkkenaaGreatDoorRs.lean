import Derived.Test.YtpbdidnphkkenaaGreatDoorRr
import Derived.OrdersHeld
import Derived.OrdersIn
set_option linter.all false
namespace Go.Proofs.YtpbdidnphkkenaaGreatDoor
section
open Go Go.RowKit
section
variable {n l : Nat} {P : Program} {ops : Array Oper} {Q : Exit → Act → World → Prop} {md : Region.Mode}
/-- No operation of the region defers. -/
def noDefer (ops : Array Oper) : Bool := ops.all fun o => match o.op with
  | .defer _ => false
  | _ => true
theorem noDefer_get (h : noDefer ops = true) {o : Oper} (ho : o ∈ ops) (c : Call) : o.op ≠ .defer c := by
  intro e
  have h1 := Array.all_eq_true_iff_forall_mem.1 h o ho
  rw [e] at h1
  cases h1
theorem rows_round {row : String} {args : Array Value} {w : World} {R : Value → World → Prop} (h : Rows P row args w R) : RowsIn (Fence.wide.inRound l) n P row args w R := by
  intro c cs hr
  obtain ⟨v, w', r, s⟩ := h c cs
  exact ⟨v, w', r, stepsIn_wide.2 s⟩
theorem op_round {o : Oper} {a : Act} {w : World} {K K' : Act → World → Prop} (hnd : ∀ c, o.op ≠ .defer c) (hQ : ¬ LetsOut Q) (hK : ∀ a w, K a w → K' a w) (h : o.wp P a w K Q) : o.wpIn (Fence.wide.inRound l) n P a w K' Q := by
  refine ⟨fun f _ => trivial, ?_⟩
  rw [show o.semAt (Fence.wide.inRound l).round a.eval = execOp a.eval o from Oper.semAt_some l _ _ hnd]
  unfold Oper.wp at h
  generalize (execOp a.eval o).run P w = r at *
  cases r with
  | ok x X =>
    cases x <;> simp only [Oper.upon] at h <;> simp only [Oper.uponIn]
    case value => exact hK _ _ h
    case skip => exact hK _ _ h
    case defer => exact hK _ _ h
    case enter f args =>
      refine ⟨(fun h2 => by cases h2), ?_⟩
      exact CallsIn.mono (callsIn_wide.2 h : CallsIn Fence.wide (n - 1) P f args X _) (fun e Y he => by cases e <;> first | exact hK _ _ he | exact he)
    case row row args =>
      exact ⟨(fun h2 => by cases h2), RowsIn.mono (rows_round h) (fun v Y he => hK _ _ he)⟩
  | halt x X => cases x <;> simp only [Oper.upon] at h <;> simp only [Oper.uponIn] <;> exact h
theorem any_round (hnd : noDefer ops = true) (hQ : ¬ LetsOut Q) : ∀ (fuel : Nat) (listed : Array Bool) (a : Act) (w : World), wpAny P md ops Q fuel listed a w → wpAnyIn (Fence.wide.inRound l) n P md ops Q fuel listed a w
  | 0, _, _, _, h => h
  | fuel + 1, listed, a, w, h => by
    refine ⟨h.1, fun i hi => ?_⟩
    have h2 := h.2 i hi
    unfold wpOp at h2
    unfold wpOpIn
    cases ho : ops[i]? with
    | none =>
      simp only [ho] at h2 ⊢
      exact any_round hnd hQ fuel _ _ _ h2
    | some o =>
      simp only [ho] at h2 ⊢
      split
      · rename_i hw
        rw [if_pos hw] at h2
        rcases h2 with h2 | ⟨-, h2⟩
        · exact op_round (noDefer_get hnd (Array.mem_of_getElem? ho)) hQ (fun a w h3 => any_round hnd hQ fuel _ _ _ h3) h2
        · exact absurd h2 hQ
      · rename_i hw
        rw [if_neg hw] at h2
        exact ⟨fun f _ => trivial, any_round hnd hQ fuel _ _ _ h2⟩
/-- A region that draws its order, within a round. -/
theorem region_round {id : Nat} {S : World → Prop} {a : Act} {w : World} (hm : P.follows .mixedOrders = true) (hnd : noDefer ops = true) (hQ : ¬ LetsOut Q) (h : wpAnyH P .any ops Q S ops.size (Array.replicate ops.size false) a w.drew) : (Code.region id ops true).wpIn (Fence.wide.inRound l) n P Q a w :=
  wpIn_region_any hm (any_round hnd hQ _ _ _ _ (wpAny_of_held _ _ _ _ h))
theorem list_round (hQ : ¬ LetsOut Q) : ∀ (rest : List Oper) (a : Act) (w : World), (∀ o ∈ rest, ∀ c, o.op ≠ .defer c) → wpList P ops Q rest a w → wpListIn (Fence.wide.inRound l) n P ops Q rest a w
  | [], _, _, _, h => h
  | o :: rest, a, w, hnd, h => by
    unfold wpList at h
    unfold wpListIn
    split
    · rename_i hw
      rw [if_pos hw] at h
      rcases h with h | ⟨-, h⟩
      · exact op_round (hnd o (List.mem_cons_self ..)) hQ (fun a w h3 => list_round hQ rest a w (fun q hq => hnd q (List.mem_cons_of_mem _ hq)) h3) h
      · exact absurd h hQ
    · rename_i hw
      rw [if_neg hw] at h
      exact ⟨fun f _ => trivial, list_round hQ rest _ w (fun q hq => hnd q (List.mem_cons_of_mem _ hq)) h⟩
/-- A region in its written order, within a round. -/
theorem plain_round {id : Nat} {rest : List Oper} {a : Act} {w : World} (hnd : noDefer rest.toArray = true) (hQ : ¬ LetsOut Q) (h : wpList P rest.toArray Q rest a w) : (Code.region id rest.toArray false).wpIn (Fence.wide.inRound l) n P Q a w :=
  wpIn_region_lit (list_round hQ rest a w (fun o ho => noDefer_get hnd (by simpa using ho)) h)
end
/-- The marks of ranges that have ended: blocks of deferred calls with nothing in them. -/
def marks (ds : List Nat) : List Deferred := ds.map fun D => { target := .collected D, args := #[] }
end
end Go.Proofs.YtpbdidnphkkenaaGreatDoor
namespace Go.Proofs.YtpbdidnphkkenaaGreatDoor
set_option maxHeartbeats 1000000
section
open Go Go.Proofs Go.Maps Go.RowKit
theorem hold_def {X : World} {b : Nat} {cs : List Value} (h : Holds X b cs) (hc : 0 < cs.length) : X.heap[b]? ≠ some (.deferred (some [])) := fun e => by
  have h0 := h.cell 0 (List.getElem?_eq_getElem hc)
  simp [World.cell?, e] at h0
theorem own_def {X : World} {base e s n : Nat} {v : Value} {ys : List Value} (h : X.ownsRow base e s v n ys) {g : Nat} (hg : v.ownBlock = some g) : X.heap[g]? ≠ some (.deferred (some [])) := fun e2 => by
  rcases h.2 with ⟨h1, h2⟩ | ⟨g', cap, cur, h1, h3, h4, h5⟩
  · rw [h1] at hg
    cases hg
  · rw [h1] at hg
    obtain rfl : g' = g := Option.some.inj hg
    rw [h4] at e2
    cases e2
theorem tab_def {X : World} {T : TT} (h : T.Is X) {b : Nat} (hb : b ∈ T.blocks) : X.heap[b]? ≠ some (.deferred (some [])) := by
  simp only [TT.blocks, List.mem_cons, List.mem_append, List.mem_map] at hb
  rcases hb with rfl | rfl | hb | ⟨r, hr, rfl⟩
  · exact hold_def h.tab (by simp [TT.cs])
  · obtain ⟨D, ⟨es, clock, hm, _⟩, _⟩ := h.map
    rw [hm]
    intro e
    cases e
  · exact own_def h.own (by simpa using hb)
  · exact hold_def (h.rows r hr) (by simp [rcs_length])
theorem mk_keep {E : List Nat} {X Y : World} {ds : List Nat} (h : ∀ D ∈ ds, X.heap[D]? = some (.deferred (some []))) (hf : Fr X Y E) (hE : ∀ b ∈ E, X.heap[b]? ≠ some (.deferred (some []))) : ∀ D ∈ ds, Y.heap[D]? = some (.deferred (some [])) := fun D hD =>
  (hf.block D (Array.getElem?_eq_some_iff.1 (h D hD)).1 (fun hm => hE D hm (h D hD))).trans (h D hD)
section
variable {ops : Array Oper} {rest : List Oper} {Q : Exit → Act → World → Prop} {w X : World} {a : Act} {o : Oper}
theorem vl {V : Value} {Y : World} (hw : Region.wanted o (yielded ops a.tmps) = true) (hy : (execOp a.eval o).run Tryz.prog X = .ok (.value V) Y) (h : wpList Tryz.prog ops Q rest (a.put o.dst V) Y) : wpList Tryz.prog ops Q (o :: rest) a X := by
  refine BigFrame.wpList_want hw fun K hK => ?_
  have hP := hK _ _ h
  unfold Oper.wp
  rw [hy]
  exact hP
theorem skv {Y : World} (hw : Region.wanted o (yielded ops a.tmps) = true) (hy : (execOp a.eval o).run Tryz.prog X = .ok .skip Y) (h : wpList Tryz.prog ops Q rest (a.put o.dst undef) Y) : wpList Tryz.prog ops Q (o :: rest) a X := by
  refine BigFrame.wpList_want hw fun K hK => ?_
  have hP := hK _ _ h
  unfold Oper.wp
  rw [hy]
  exact hP
theorem ex_lenG {o : Oper} {a : Act} {w : World} {m : Operand} {A : Option Addr} {n c : Nat} (t e : TypeId) (ht : Tryz.prog.underlying t = some (.slice e)) (ho : o.op = .call { callee := .builtin .len, args := #[m], argTypes := #[t] }) (hm : a.eval m = .slice A n c) : (execOp a.eval o).run Tryz.prog w = .ok (.value (.int .i64 (n : Nat))) w := by
  simp [execOp, ho, resolve, invoke, builtin, hm, Builtin.len_, Result.andThen, goInt, ht, run_underlying ht]
theorem ex_indexG {o : Oper} {a : Act} {w : World} {x ix : Operand} {g off n cap : Nat} (t : TypeId) (sz j : Nat) (hk : Tryz.prog.underlying t = some (.slice (Tryz.prog.elem t))) (he : ∀ w, (sizeOf (Tryz.prog.elem t)).run Tryz.prog w = .ok sz w) (ho : o.op = .indexAddr t x ix) (hx : a.eval x = .slice (some ⟨g, off, none⟩) n cap) (hix : a.eval ix = .int .i64 (j : Nat)) (hj : j < n) : (execOp a.eval o).run Tryz.prog w = .ok (.value (.pointer (some ⟨g, off + j * sz, none⟩))) w := by
  have h1 : (Instr.indexAt t (.slice (some ⟨g, off, none⟩) n cap) (.int .i64 (j : Nat))).run Tryz.prog w = .ok (.pointer (some ⟨g, off + j * sz, none⟩)) w := by
    rw [run_indexAt_slice (h := hk), if_pos ⟨by omega, by omega⟩, he]
    have e2 : (Addr.add ⟨g, off, none⟩ ((j : Int).toNat * sz)) = ⟨g, off + j * sz, none⟩ := by
      rw [Addr.add_mid]
      simp
    show Result.ok (Value.pointer (some (Addr.add ⟨g, off, none⟩ ((j : Int).toNat * sz)))) w = _
    rw [e2]
  unfold execOp
  simp only [ho, hx, hix]
  simp [h1]
end
theorem und22 : Tryz.prog.underlying 22 = some (.slice (Tryz.prog.elem 22)) := by kernel_rfl
theorem idx22 (w : World) : (sizeOf (Tryz.prog.elem 22)).run Tryz.prog w = .ok 23 w := by kernel_rfl
/-- All marks are taken: nothing was deferred. -/
theorem leaves_marks {fn : Func} {tmps : Array Value} {R : Ending → World → Prop} {n : Nat} : ∀ (ds : List Nat) (W : World), ds.Nodup → (∀ D ∈ ds, W.heap[D]? = some (.deferred (some []))) →
    (∀ Y, Fr W Y ds → LeavesInM Fence.wide n Tryz.prog fn tmps R [] .returning Y) → LeavesInM Fence.wide n Tryz.prog fn tmps R (marks ds) .returning W
  | [], W, _, _, h => h W (Fr.refl _ _)
  | D :: ds, W, hnd, hD, h => by
    have hK := hD D (List.mem_cons_self ..)
    obtain ⟨h1, h2⟩ := List.nodup_cons.1 hnd
    refine ⟨by simp, .inl ⟨_, _, rfl, run_takeDeferred hK, ?_⟩⟩
    refine leaves_marks ds _ h2 (fun E hE => ?_) (fun Y hY => h Y ?_)
    · have hne : E ≠ D := fun e => h1 (e ▸ hE)
      exact (World.putObj_heap_other hne).trans (hD E (List.mem_cons_of_mem _ hE))
    · have hg := Fr.grown (grownBy_putObj' W D (.deferred none))
      exact (hg.mono (E' := D :: ds) (fun b hb => .inl (by have : b = D := (by simpa using hb); simp [this]))).trans hY (fun b hb => .inl (List.mem_cons_of_mem _ hb))
section
variable {X Y : World}
set_option linter.unusedSimpArgs false
set_option linter.unusedVariables false
set_option maxHeartbeats 1000000
/-- A loop's record. -/
def NM (o : Obj) : Prop := ∃ q, o = .loop q
theorem cell_nm {X : World} {a : Addr} {v : Value} {o : Obj} (h : X.cell? a = some v) (ho : X.heap[a.block]? = some o) : ¬ NM o := by
  rintro ⟨q, rfl⟩
  simp [World.cell?, ho] at h
theorem hold_nm {X : World} {b : Nat} {cs : List Value} {o : Obj} (h : Holds X b cs) (hc : 0 < cs.length) (ho : X.heap[b]? = some o) : ¬ NM o := cell_nm (h.cell 0 (List.getElem?_eq_getElem hc)) ho
theorem own_nm {X : World} {base e s n : Nat} {v : Value} {ys : List Value} (h : X.ownsRow base e s v n ys) {g : Nat} {o : Obj} (hg : v.ownBlock = some g) (ho : X.heap[g]? = some o) : ¬ NM o := by
  rcases h.2 with ⟨h1, h2⟩ | ⟨g', cap, cur, h1, h3, h4, h5⟩
  · rw [h1] at hg
    cases hg
  · rw [h1] at hg
    obtain rfl : g' = g := Option.some.inj hg
    rw [h4] at ho
    cases ho
    rintro ⟨q, h6⟩
    cases h6
theorem tab_nm {X : World} {T : TT} (h : T.Is X) {b : Nat} {o : Obj} (hb : b ∈ T.blocks) (ho : X.heap[b]? = some o) : ¬ NM o := by
  simp only [TT.blocks, List.mem_cons, List.mem_append, List.mem_map] at hb
  rcases hb with rfl | rfl | hb | ⟨r, hr, rfl⟩
  · exact hold_nm h.tab (by simp [TT.cs]) ho
  · obtain ⟨D, ⟨es, clock, hm, _⟩, _⟩ := h.map
    rw [hm] at ho
    cases ho
    rintro ⟨q, h6⟩
    cases h6
  · exact own_nm h.own (by simpa using hb) ho
  · exact hold_nm (h.rows r hr) (by simp [rcs_length]) ho
theorem grown_fr {row : Option Nat} (hg : X.grownBy Y row) : Fr X Y row.toList := Fr.grown hg
theorem cell_ld {X : World} {a : Addr} {v : Value} {o : Obj} (h : X.cell? a = some v) (ho : X.heap[a.block]? = some o) : ¬ LD o := by
  rintro (⟨q, rfl⟩ | ⟨q, rfl⟩) <;> simp [World.cell?, ho] at h
theorem hold_ld {X : World} {b : Nat} {cs : List Value} {o : Obj} (h : Holds X b cs) (hc : 0 < cs.length) (ho : X.heap[b]? = some o) : ¬ LD o := cell_ld (h.cell 0 (List.getElem?_eq_getElem hc)) ho
theorem own_ld {X : World} {base e s n : Nat} {v : Value} {ys : List Value} (h : X.ownsRow base e s v n ys) {g : Nat} {o : Obj} (hg : v.ownBlock = some g) (ho : X.heap[g]? = some o) : ¬ LD o := by
  rcases h.2 with ⟨h1, h2⟩ | ⟨g', cap, cur, h1, h3, h4, h5⟩
  · rw [h1] at hg
    cases hg
  · rw [h1] at hg
    obtain rfl : g' = g := Option.some.inj hg
    rw [h4] at ho
    cases ho
    rintro (⟨q, h6⟩ | ⟨q, h6⟩) <;> cases h6
theorem tab_ld {X : World} {T : TT} (h : T.Is X) {b : Nat} {o : Obj} (hb : b ∈ T.blocks) (ho : X.heap[b]? = some o) : ¬ LD o := by
  simp only [TT.blocks, List.mem_cons, List.mem_append, List.mem_map] at hb
  rcases hb with rfl | rfl | hb | ⟨r, hr, rfl⟩
  · exact hold_ld h.tab (by simp [TT.cs]) ho
  · obtain ⟨D, ⟨es, clock, hm, _⟩, _⟩ := h.map
    rw [hm] at ho
    cases ho
    rintro (⟨q, h6⟩ | ⟨q, h6⟩) <;> cases h6
  · exact own_ld h.own (by simpa using hb) ho
  · exact hold_ld (h.rows r hr) (by simp [rcs_length]) ho
theorem kl_fr {X Y : World} {E : List Nat} (hf : Fr X Y E) (hE : ∀ b ∈ E, ∀ o, X.heap[b]? = some o → ¬ LD o) : KL X Y := fun k o h1 h2 =>
  (hf.block k (Array.getElem?_eq_some_iff.1 h1).1 (fun hm => hE k hm o h1 h2)).trans h1
end
set_option linter.unusedSimpArgs false
set_option linter.unusedVariables false
set_option maxHeartbeats 1000000
theorem next_live (T : TT) (m : Nat) : T.next m = T.live.find? (fun r => decide (m < r.n)) := by
  unfold TT.next TT.live
  rw [List.find?_filter]
  apply find_congr
  intro r hr
  simp only [after]
  by_cases h : m < r.n <;> cases r.gone <;> simp [h]
theorem live_rise {T : TT} {W : World} (h : T.Is W) : T.live.Pairwise (fun a b => a.n < b.n) := List.Pairwise.filter _ h.rise
theorem range_two {σ α : Type} {F : Fence} {n : Nat} {g : Operand} {ps : Array Tmp} {assign body : Code} {Q : Exit → Act → World → Prop} {a : Act} {w : World}
    (hro : F.round = none) (h1 : 1 ≤ n) {gf : Nat} {lb : Array Value} (hg : a.eval g = .func (.func gf) #[] lb) (hFg : F.fn gf) (eg : ∀ args w, (callFunc gf args).run Tryz.prog w = .ok (.enter gf args) w)
    {encs : α → Array Value} {Tab : σ → World → Prop} {V : σ → α → Prop} {nx : σ → α → σ → Prop} {Fin : σ → Prop} {s0 : σ} {w0 : World} (hseq : SeqBy F (n - 1) Tryz.prog gf lb encs Tab V nx Fin s0 w0) (hb0 : Below w0.heap.size w0 w) (hps : ∀ x, (encs x).size = ps.size)
    (I : σ → World → Prop) (Ix : Code → World → Prop) (hIT : ∀ s X, I s X → Tab s X) (hI : OwnL w.heap.size I) (hIx : ∀ c, OwnL w.heap.size (fun (_ : Unit) W => Ix c W)) (h0 : I s0 w) (d e : Tmp) (f h : α → List Value) (hfl : ∀ x, 0 < (f x).length) (hhl : ∀ x, 0 < (h x).length)
    (hassign : ∀ (l : Nat) (s : σ) (x : α) (W : World) (K : Act → World → Prop), I s W → V s x → (∀ B C Y, KL W Y → I s Y → Holds Y B (f x) → Holds Y C (h x) → K { tmps := (((ps.zip (encs x)).foldl (fun t (p, v) => t.setIfInBounds p v) a.tmps).setIfInBounds d (.pointer (some ⟨B, 0, none⟩))).setIfInBounds e (.pointer (some ⟨C, 0, none⟩)), defers := [] } Y) →
      assign.wpIn (F.inRound l) (n - 1 - 1) Tryz.prog (Exit.then K (fun _ _ _ => False)) { tmps := (ps.zip (encs x)).foldl (fun t (p, v) => t.setIfInBounds p v) a.tmps, defers := [] } W)
    (hbody : ∀ (l : Nat) (s : σ) (x : α) (B C : Nat) (W : World), w.heap.size ≤ l → I s W → V s x → Holds W B (f x) → Holds W C (h x) → body.wpIn (F.inRound l) (n - 1 - 1) Tryz.prog (byPost w.heap.size I Ix nx s x W) { tmps := (((ps.zip (encs x)).foldl (fun t (p, v) => t.setIfInBounds p v) a.tmps).setIfInBounds d (.pointer (some ⟨B, 0, none⟩))).setIfInBounds e (.pointer (some ⟨C, 0, none⟩)), defers := [] } W)
    (hdone : ∀ (D : Nat) (s : σ) (W : World), w.heap.size ≤ D → Fin s → I s W → W.heap[D]? = some (.deferred (some [])) → Q .normal { a with defers := { target := .collected D, args := #[] } :: a.defers } W)
    (hstop : ∀ (D : Nat) (c : Code) (W : World), w.heap.size ≤ D → Ix c W → W.heap[D]? = some (.deferred (some [])) → c.wpIn F n Tryz.prog Q { a with defers := { target := .collected D, args := #[] } :: a.defers } W) :
    (Code.rangeFunc g ps assign body).wpIn F n Tryz.prog Q a w := by
  refine range_by hro h1 hg hFg eg hseq hb0 hps I Ix hIT hI hIx h0 (fun x a' W => ∃ B C, a' = { tmps := (((ps.zip (encs x)).foldl (fun t (p, v) => t.setIfInBounds p v) a.tmps).setIfInBounds d (.pointer (some ⟨B, 0, none⟩))).setIfInBounds e (.pointer (some ⟨C, 0, none⟩)), defers := [] } ∧ Holds W B (f x) ∧ Holds W C (h x)) ?_ ?_ ?_ hdone hstop
  · intro x a' _ A B row hs hgr hr
    obtain ⟨C, D, h2, h3, h4⟩ := hs
    exact ⟨C, D, h2, holds_own h3 (hfl x) hgr (fun r e => (hr r e).2), holds_own h4 (hhl x) hgr (fun r e => (hr r e).2)⟩
  · intro l s x W K hi hv hk
    exact hassign l s x W K hi hv (fun B C Y h2 h3 h4 h5 => hk _ Y h2 h3 ⟨B, C, rfl, h4, h5⟩)
  · rintro l s x a' W hl hi hv ⟨B, C, rfl, hH, hG⟩
    exact hbody l s x B C W hl hi hv hH hG
theorem ps_mem {S : PS} {b : Nat} (h : b ∈ S.parts.flatten) : b = S.P ∨ b ∈ S.T0.blocks ∨ b ∈ S.T1.blocks ∨ b ∈ S.R0.blocks ∨ b ∈ S.R1.blocks := by
  simpa [PS.parts] using h
theorem ps_in {S : PS} {b : Nat} (h : b = S.P ∨ b ∈ S.T0.blocks ∨ b ∈ S.T1.blocks ∨ b ∈ S.R0.blocks ∨ b ∈ S.R1.blocks) : b ∈ S.parts.flatten := by
  simpa [PS.parts] using h
theorem PS.Bs.flat {S : PS} {W : World} {base : Nat} (h : S.Bs W base) {b : Nat} (hb : b ∈ S.parts.flatten) : b < W.heap.size := by
  obtain ⟨B, hB, hbB⟩ := List.mem_flatten.1 hb
  exact h.lt B hB b hbB
theorem doc_def {X : World} {R : RT} (h : R.Is X) {b : Nat} (hb : b ∈ R.blocks) : X.heap[b]? ≠ some (.deferred (some [])) := by
  simp only [RT.blocks, List.mem_cons] at hb
  rcases hb with rfl | hb
  · exact hold_def h.tab (by simp [RT.cs])
  · exact own_def h.own (by simpa using hb)
theorem doc_nm {X : World} {R : RT} (h : R.Is X) {b : Nat} {o : Obj} (hb : b ∈ R.blocks) (ho : X.heap[b]? = some o) : ¬ NM o := by
  simp only [RT.blocks, List.mem_cons] at hb
  rcases hb with rfl | hb
  · exact hold_nm h.tab (by simp [RT.cs]) ho
  · exact own_nm h.own (by simpa using hb) ho
theorem doc_ld {X : World} {R : RT} (h : R.Is X) {b : Nat} {o : Obj} (hb : b ∈ R.blocks) (ho : X.heap[b]? = some o) : ¬ LD o := by
  simp only [RT.blocks, List.mem_cons] at hb
  rcases hb with rfl | hb
  · exact hold_ld h.tab (by simp [RT.cs]) ho
  · exact own_ld h.own (by simpa using hb) ho
section
variable {S : PS} {W W' : World} {base N : Nat} {b : Nat} {o : Obj}
theorem PS.Bs.def (h : S.Bs W base) (hb : b ∈ S.parts.flatten) : W.heap[b]? ≠ some (.deferred (some [])) := by
  rcases ps_mem hb with rfl | hb | hb | hb | hb
  · exact hold_def h.hold (by simp [PS.cs, pairCs])
  · exact tab_def h.t0 hb
  · exact tab_def h.t1 hb
  · exact doc_def h.r0 hb
  · exact doc_def h.r1 hb
theorem PS.Bs.nm (h : S.Bs W base) (hb : b ∈ S.parts.flatten) (ho : W.heap[b]? = some o) : ¬ NM o := by
  rcases ps_mem hb with rfl | hb | hb | hb | hb
  · exact hold_nm h.hold (by simp [PS.cs, pairCs]) ho
  · exact tab_nm h.t0 hb ho
  · exact tab_nm h.t1 hb ho
  · exact doc_nm h.r0 hb ho
  · exact doc_nm h.r1 hb ho
theorem PS.Bs.ld (h : S.Bs W base) (hb : b ∈ S.parts.flatten) (ho : W.heap[b]? = some o) : ¬ LD o := by
  rcases ps_mem hb with rfl | hb | hb | hb | hb
  · exact hold_ld h.hold (by simp [PS.cs, pairCs]) ho
  · exact tab_ld h.t0 hb ho
  · exact tab_ld h.t1 hb ho
  · exact doc_ld h.r0 hb ho
  · exact doc_ld h.r1 hb ho
theorem PS.Is.fr {E : List Nat} (h : S.Is W base N) (hf : Fr W W' E) (hE : ∀ b ∈ S.parts.flatten, b ∉ E) (hc : ∀ c ∈ S.C, ∀ b, c.b = some b → b ∉ E) : S.Is W' base N :=
  ⟨⟨h.bs.hold.block (hf.block _ (h.bs.flat (ps_in (.inl rfl))) (hE _ (ps_in (.inl rfl)))), h.bs.t0.fr hf (fun b hb => hE b (ps_in (.inr (.inl hb)))), h.bs.t1.fr hf (fun b hb => hE b (ps_in (.inr (.inr (.inl hb))))), h.bs.r0.fr hf (fun b hb => hE b (ps_in (.inr (.inr (.inr (.inl hb)))))), h.bs.r1.fr hf (fun b hb => hE b (ps_in (.inr (.inr (.inr (.inr hb)))))), h.bs.sep, h.bs.low, h.bs.four, Nat.le_trans h.bs.size hf.size⟩,
    h.rel0, h.rel1, h.last, h.nx, h.ris, fun c hc' => ⟨(h.cut c hc').m, (h.cut c hc').a, (h.cut c hc').al, fun b e => by
      obtain ⟨h1, h2, h3⟩ := (h.cut c hc').row b e
      exact ⟨Nat.lt_of_lt_of_le h1 hf.size, h2, (cell_blk (hf.block b h1 (hc c hc' b e))).trans h3⟩⟩⟩
theorem PS.Is.setC {C' : List CT} (h : S.Is W base N) (hc : ∀ c ∈ C', CutIs S W c) : PS.Is { S with C := C' } W base N :=
  ⟨⟨h.bs.hold, h.bs.t0, h.bs.t1, h.bs.r0, h.bs.r1, h.bs.sep, h.bs.low, h.bs.four, h.bs.size⟩, h.rel0, h.rel1, h.last, h.nx, h.ris, fun c hc' => ⟨(hc c hc').m, (hc c hc').a, (hc c hc').al, (hc c hc').row⟩⟩
/-- The steps that are left are one fewer. -/
theorem PS.Is.tick (h : S.Is W base N) (z : Int) : PS.Is { S with left := z } (W.setCells S.P 4 [.int .i64 z]) base N := by
  have hf : Fr W (W.setCells S.P 4 [.int .i64 z]) [S.P] := Fr.setCells W S.P 4 _
  have d := h.bs.d
  have n : ∀ i B, S.parts[i]? = some B → 0 < i → ∀ b ∈ B, b ∉ [S.P] := fun i B hi h0 b hb hm => by
    obtain rfl : b = S.P := by simpa using hm
    exact d 0 i _ _ rfl hi h0 S.P (by simp) hb
  have hh := h.bs.hold.put 4 [.int .i64 z] (by simp [PS.cs, pairCs])
  refine ⟨⟨?_, h.bs.t0.fr hf (n 1 _ rfl (by omega)), h.bs.t1.fr hf (n 2 _ rfl (by omega)), h.bs.r0.fr hf (n 3 _ rfl (by omega)), h.bs.r1.fr hf (n 4 _ rfl (by omega)), h.bs.sep, h.bs.low, h.bs.four, Nat.le_trans h.bs.size hf.size⟩, h.rel0, h.rel1, h.last, h.nx, h.ris, fun c hc' => ⟨(h.cut c hc').m, (h.cut c hc').a, (h.cut c hc').al, fun b e => ?_⟩⟩
  · exact hh
  · obtain ⟨h1, h2, h3⟩ := (h.cut c hc').row b e
    refine ⟨Nat.lt_of_lt_of_le h1 hf.size, h2, (cell_blk (hf.block b h1 (fun hm => h2 ?_))).trans h3⟩
    obtain rfl : b = S.P := by simpa using hm
    simp [PS.hot]
end
/-- What a call may have done to the pair, walks among it. -/
structure Wk (S S' : PS) (w w' : World) : Prop where
  P : S'.P = S.P
  fr : Fr w w' S.parts.flatten
  new : ∀ b ∈ S'.parts.flatten, b ∈ S.parts.flatten ∨ w.heap.size ≤ b
  C : S'.C = S.C
  left : S'.left ≤ S.left
  ts : S.C ≠ [] → S'.T0.t = S.T0.t ∧ S'.R0.t = S.R0.t
theorem Went.wk {S S' : PS} {w w' : World} (h : Went S S' w w') : Wk S S' w w' := ⟨h.P, h.fr, h.new, h.C, Int.le_of_eq h.left, h.ts⟩
theorem Wk.refl (S : PS) {w w' : World} (h : Below w.heap.size w w') : Wk S S w w' := (Went.refl S h).wk
theorem Wk.trans {S S' S'' : PS} {w w' w'' : World} (h : Wk S S' w w') (k : Wk S' S'' w' w'') : Wk S S'' w w'' :=
  ⟨k.P.trans h.P, h.fr.trans k.fr (fun b hb => h.new b hb), fun b hb => by
    rcases k.new b hb with hb | hb
    · exact h.new b hb
    · exact .inr (Nat.le_trans h.fr.size hb), k.C.trans h.C, Int.le_trans k.left h.left, fun hc => ⟨(k.ts (by rw [h.C]; exact hc)).1.trans (h.ts hc).1, (k.ts (by rw [h.C]; exact hc)).2.trans (h.ts hc).2⟩⟩
theorem Wk.below {S S' : PS} {w w' W : World} {base : Nat} (h : Wk S S' w w') (hS : S.Bs W base) (hz : base ≤ w.heap.size) : Below base w w' :=
  ⟨h.fr.os, h.fr.tape, h.fr.output, h.fr.size, fun b hb => h.fr.block b (Nat.lt_of_lt_of_le hb hz) (fun he => by
    obtain ⟨B, hB, hbB⟩ := List.mem_flatten.1 he
    have := hS.low B hB b hbB
    omega)⟩
/-- The pair at work: its tables, our boxes beside it, and the marks of ranges that have ended. -/
structure PJ (w X : World) (S0 S : PS) (base N : Nat) (L : List (Nat × List Value)) (ds : List Nat) : Prop where
  is : S.Is X base N
  hq : Hq w X S0.parts.flatten L
  new : ∀ b ∈ S.parts.flatten, b ∈ S0.parts.flatten ∨ w.heap.size ≤ b
  P : S.P = S0.P
  t : S.T0.t = S0.T0.t
  r : S.R0.t = S0.R0.t
  low : ∀ q ∈ L, w.heap.size ≤ q.1
  sep : ∀ q ∈ L, q.1 ∉ S.parts.flatten
  cs : ∀ c ∈ S.C, ∀ b, c.b = some b → ∀ q ∈ L, q.1 ≠ b
  mkd : ∀ D ∈ ds, X.heap[D]? = some (.deferred (some []))
  dlow : ∀ D ∈ ds, w.heap.size ≤ D
  dnd : ds.Nodup
section
variable {w X Y : World} {S0 S S' : PS} {base N N' : Nat} {L M : List (Nat × List Value)} {ds : List Nat}
theorem PJ.start (h : S.Is w base N) : PJ w w S S base N [] [] := ⟨h, Hq.nil _ _, fun b hb => .inl hb, rfl, rfl, rfl, by simp, by simp, (fun c hc b e q hq => by cases hq), by simp, by simp, by simp⟩
theorem PJ.get (h : PJ w X S0 S base N L ds) (i : Nat) {b : Nat} {cs : List Value} (hi : L[i]? = some (b, cs)) : Holds X b cs := h.hq.get i hi
theorem PJ.fr (h : PJ w X S0 S base N L ds) : Fr w X S0.parts.flatten := h.hq.fr
theorem PJ.on (h : PJ w X S0 S base N L ds) (k : Below X.heap.size X Y) : PJ w Y S0 S base N L ds :=
  ⟨h.is.on k, h.hq.on k, h.new, h.P, h.t, h.r, h.low, h.sep, h.cs, mk_keep h.mkd (Fr.of_below k []) (by simp), h.dlow, h.dnd⟩
theorem PJ.box (h : PJ w X S0 S base N L ds) (cs : List Value) (t : TypeId) (hc : 0 < cs.length) : PJ w (X.alloc (Obj.cells cs.toArray t)) S0 S base N (L ++ [(X.heap.size, cs)]) ds := by
  have k : Below X.heap.size X (X.alloc (Obj.cells cs.toArray t)) := (Below.refl _ _).alloc (Nat.le_refl _) _
  refine ⟨h.is.on k, h.hq.new cs t hc, h.new, h.P, h.t, h.r, fun q hq => ?_, fun q hq => ?_, fun c hc' b e q hq => ?_, mk_keep h.mkd (Fr.of_below k []) (by simp), h.dlow, h.dnd⟩
  · rcases List.mem_append.1 hq with h2 | h2
    · exact h.low q h2
    · obtain rfl : q = (X.heap.size, cs) := by simpa using h2
      exact h.fr.size
  · rcases List.mem_append.1 hq with h2 | h2
    · exact h.sep q h2
    · obtain rfl : q = (X.heap.size, cs) := by simpa using h2
      exact fun hm => Nat.lt_irrefl _ (h.is.bs.flat hm)
  · rcases List.mem_append.1 hq with h2 | h2
    · exact h.cs c hc' b e q h2
    · obtain rfl : q = (X.heap.size, cs) := by simpa using h2
      intro e2
      have := ((h.is.cut c hc').row b e).1
      have e3 : X.heap.size = b := e2
      omega
theorem set_mem {i : Nat} {b : Nat} {cs cs' : List Value} (hi : L[i]? = some (b, cs)) {q : Nat × List Value} (hq : q ∈ L.set i (b, cs')) : ∃ q' ∈ L, q'.1 = q.1 := by
  rcases List.mem_or_eq_of_mem_set hq with h | rfl
  · exact ⟨q, h, rfl⟩
  · exact ⟨_, List.mem_of_getElem? hi, rfl⟩
theorem PJ.put (h : PJ w X S0 S base N L ds) (i : Nat) {b : Nat} {cs : List Value} (hi : L[i]? = some (b, cs)) (p : Nat) (vs : List Value) (hp : p + vs.length ≤ cs.length) : PJ w (X.setCells b p vs) S0 S base N (L.set i (b, cput cs p vs)) ds := by
  have hm := List.mem_of_getElem? hi
  have hf := Fr.setCells X b p vs
  refine ⟨h.is.fr hf (fun c hc e => h.sep _ hm ((by simpa using e : c = b) ▸ hc)) (fun c hc b' e hb => h.cs c hc b' e _ hm (by simpa using hb : b' = b).symm), h.hq.put i hi p vs hp (.inr (h.low _ hm)), h.new, h.P, h.t, h.r, fun q hq => ?_, fun q hq => ?_, fun c hc b' e q hq => ?_, mk_keep h.mkd hf (fun c hc => ?_), h.dlow, h.dnd⟩
  · obtain ⟨q', h1, h2⟩ := set_mem hi hq
    rw [← h2]
    exact h.low q' h1
  · obtain ⟨q', h1, h2⟩ := set_mem hi hq
    rw [← h2]
    exact h.sep q' h1
  · obtain ⟨q', h1, h2⟩ := set_mem hi hq
    rw [← h2]
    exact h.cs c hc b' e q' h1
  · obtain rfl : c = b := by simpa using hc
    exact hold_def (h.get i hi) (h.hq.all _ hm).2
theorem PJ.left (h : PJ w X S0 S base N (L ++ M) ds) : PJ w X S0 S base N L ds :=
  ⟨h.is, ⟨h.hq.fr, fun q hq => h.hq.all q (List.mem_append_left _ hq), by
    have := h.hq.nd
    rw [List.map_append, List.nodup_append] at this
    exact this.1⟩, h.new, h.P, h.t, h.r, fun q hq => h.low q (List.mem_append_left _ hq), fun q hq => h.sep q (List.mem_append_left _ hq), fun c hc b e q hq => h.cs c hc b e q (List.mem_append_left _ hq), h.mkd, h.dlow, h.dnd⟩
/-- A call on the pair. -/
theorem PJ.step (h : PJ w X S0 S base N L ds) (hS : S'.Is Y base N') (hW : Wk S S' X Y) (hC : S.C ≠ []) : PJ w Y S0 S' base N' L ds :=
  ⟨hS, h.hq.step hW.fr h.new h.sep, fun b hb => by
    rcases hW.new b hb with h1 | h1
    · exact h.new b h1
    · exact .inr (Nat.le_trans h.fr.size h1), hW.P.trans h.P, (hW.ts hC).1.trans h.t, (hW.ts hC).2.trans h.r, h.low, fun q hq hm => by
    rcases hW.new q.1 hm with h1 | h1
    · exact h.sep q hq h1
    · have := h.hq.lt q hq
      omega, fun c hc => h.cs c (hW.C ▸ hc), mk_keep h.mkd hW.fr (fun b hb => h.is.bs.def hb), h.dlow, h.dnd⟩
theorem PJ.mark (h : PJ w X S0 S base N L ds) {D : Nat} (hD : X.heap[D]? = some (.deferred (some []))) (hl : w.heap.size ≤ D) (hn : D ∉ ds) : PJ w X S0 S base N L (D :: ds) :=
  ⟨h.is, h.hq, h.new, h.P, h.t, h.r, h.low, h.sep, h.cs, fun E hE => by
    rcases List.mem_cons.1 hE with rfl | hE
    · exact hD
    · exact h.mkd E hE, fun E hE => by
    rcases List.mem_cons.1 hE with rfl | hE
    · exact hl
    · exact h.dlow E hE, List.nodup_cons.2 ⟨hn, h.dnd⟩⟩
theorem PJ.grownL {row : Option Nat} (h : PJ w X S0 S base N L ds) (hg : X.grownBy Y row) (hr : ∀ r, row = some r → w.heap.size ≤ r ∧ ∃ o : Obj, X.heap[r]? = some o ∧ NM o) : PJ w Y S0 S base N L ds := by
  have hf := grown_fr hg
  have hE : ∀ b, b ∈ row.toList → row = some b := fun b hb => by simpa using hb
  refine ⟨h.is.fr hf (fun b hb hm => ?_) (fun c hc b e hm => ?_), h.hq.step hf (fun b hb => .inr (hr b (hE b hb)).1) (fun q hq hm => ?_), h.new, h.P, h.t, h.r, h.low, h.sep, h.cs, mk_keep h.mkd hf (fun b hb e => ?_), h.dlow, h.dnd⟩
  · obtain ⟨o, ho, hn⟩ := (hr b (hE b hm)).2
    exact h.is.bs.nm hb ho hn
  · obtain ⟨o, ho, hn⟩ := (hr b (hE b hm)).2
    exact cell_nm (a := ⟨b, 20, none⟩) ((h.is.cut c hc).row b e).2.2 ho hn
  · obtain ⟨o, ho, hn⟩ := (hr q.1 (hE q.1 hm)).2
    exact hold_nm (h.hq.all q hq).1 (h.hq.all q hq).2 ho hn
  · obtain ⟨o, ho, hn⟩ := (hr b (hE b hb)).2
    rw [e] at ho
    obtain rfl := Option.some.inj ho
    obtain ⟨q, hq⟩ := hn
    cases hq
theorem PJ.setC {C' : List CT} (h : PJ w X S0 S base N L ds) (hc : ∀ c ∈ C', CutIs S X c) (hs : ∀ c ∈ C', ∀ b, c.b = some b → ∀ q ∈ L, q.1 ≠ b) : PJ w X S0 { S with C := C' } base N L ds :=
  ⟨h.is.setC hc, h.hq, h.new, h.P, h.t, h.r, h.low, h.sep, hs, h.mkd, h.dlow, h.dnd⟩
theorem PJ.tick (h : PJ w X S0 S base N L ds) (z : Int) : PJ w (X.setCells S.P 4 [.int .i64 z]) S0 { S with left := z } base N L ds := by
  have hf := Fr.setCells X S.P 4 [.int .i64 z]
  have hP : S.P ∈ S.parts.flatten := ps_in (.inl rfl)
  refine ⟨h.is.tick z, h.hq.step hf (fun b hb => ?_) (fun q hq hm => ?_), h.new, h.P, h.t, h.r, h.low, h.sep, h.cs, mk_keep h.mkd hf (fun b hb => ?_), h.dlow, h.dnd⟩
  · obtain rfl : b = S.P := by simpa using hb
    exact h.new _ hP
  · exact h.sep q hq ((by simpa using hm : q.1 = S.P) ▸ hP)
  · obtain rfl : b = S.P := by simpa using hb
    exact h.is.bs.def hP
end
/-- The same in a round: and what is of loops lies as it lay. -/
structure PK (w W0 X : World) (S0 S : PS) (base N : Nat) (L : List (Nat × List Value)) (ds : List Nat) : Prop where
  pj : PJ w X S0 S base N L ds
  kl : KL W0 X
section
variable {w W0 X Y : World} {S0 S S' : PS} {base N N' : Nat} {L M : List (Nat × List Value)} {ds : List Nat}
theorem PK.get (h : PK w W0 X S0 S base N L ds) (i : Nat) {b : Nat} {cs : List Value} (hi : L[i]? = some (b, cs)) : Holds X b cs := h.pj.get i hi
theorem PK.on (h : PK w W0 X S0 S base N L ds) (k : Below X.heap.size X Y) : PK w W0 Y S0 S base N L ds := ⟨h.pj.on k, h.kl.trans (kl_fr (Fr.of_below k []) (by simp))⟩
theorem PK.box (h : PK w W0 X S0 S base N L ds) (cs : List Value) (t : TypeId) (hc : 0 < cs.length) : PK w W0 (X.alloc (Obj.cells cs.toArray t)) S0 S base N (L ++ [(X.heap.size, cs)]) ds :=
  ⟨h.pj.box cs t hc, h.kl.trans (kl_fr (Fr.of_below ((Below.refl _ _).alloc (Nat.le_refl _) _) []) (by simp))⟩
theorem PK.put (h : PK w W0 X S0 S base N L ds) (i : Nat) {b : Nat} {cs : List Value} (hi : L[i]? = some (b, cs)) (p : Nat) (vs : List Value) (hp : p + vs.length ≤ cs.length) : PK w W0 (X.setCells b p vs) S0 S base N (L.set i (b, cput cs p vs)) ds :=
  ⟨h.pj.put i hi p vs hp, h.kl.trans (kl_fr (Fr.setCells X b p vs) (fun c hc o ho => by
    obtain rfl : c = b := by simpa using hc
    exact hold_ld (h.get i hi) (h.pj.hq.all _ (List.mem_of_getElem? hi)).2 ho))⟩
theorem PK.step (h : PK w W0 X S0 S base N L ds) (hS : S'.Is Y base N') (hW : Wk S S' X Y) (hC : S.C ≠ []) : PK w W0 Y S0 S' base N' L ds :=
  ⟨h.pj.step hS hW hC, h.kl.trans (kl_fr hW.fr (fun b hb o ho => h.pj.is.bs.ld hb ho))⟩
theorem PK.tick (h : PK w W0 X S0 S base N L ds) (z : Int) : PK w W0 (X.setCells S.P 4 [.int .i64 z]) S0 { S with left := z } base N L ds :=
  ⟨h.pj.tick z, h.kl.trans (kl_fr (Fr.setCells X S.P 4 [.int .i64 z]) (fun c hc o ho => by
    obtain rfl : c = S.P := by simpa using hc
    exact h.pj.is.bs.ld (ps_in (.inl rfl)) ho))⟩
end
section
variable {F : Fence} {n : Nat} {ops : Array Oper} {rest : List Oper} {Q : Exit → Act → World → Prop} {w W0 X : World} {a : Act} {o : Oper} {S0 S : PS} {base N : Nat} {L : List (Nat × List Value)} {ds : List Nat}
/-- A box, outside a round. -/
theorem bxP {v : Value} {x : Operand} (t : TypeId) (cs : List Value) (hw : Region.wanted o (yielded ops a.tmps) = true) (ho : o.op = .box t x) (hx : a.eval x = v) (hv : v.cells.toList = cs) (hc : 0 < cs.length) (hL : PJ w X S0 S base N L ds)
    (h : ∀ Y B, PJ w Y S0 S base N (L ++ [(B, cs)]) ds → wpList Tryz.prog ops Q rest (a.put o.dst (.pointer (some ⟨B, 0, none⟩))) Y) : wpList Tryz.prog ops Q (o :: rest) a X :=
  vl hw (ex_box t cs ho hx hv) (h _ _ (hL.box cs t hc))
theorem ex_al {v : Value} (t : TypeId) (cs : List Value) (ho : o.op = .alloc t) (hz : ∀ w, (zeroValue t).run Tryz.prog w = .ok v w) (hv : v.cells.toList = cs) : (execOp a.eval o).run Tryz.prog X = .ok (.value (.pointer (some ⟨X.heap.size, 0, none⟩))) (X.alloc (Obj.cells cs.toArray t)) := by
  have ev : v.cells = cs.toArray := by rw [← hv]
  unfold execOp
  simp only [ho]
  simp [go_sem, hz]
  show X.alloc (Obj.cells v.cells t) = _
  rw [ev]
theorem alP {v : Value} (t : TypeId) (cs : List Value) (hw : Region.wanted o (yielded ops a.tmps) = true) (ho : o.op = .alloc t) (hz : ∀ w, (zeroValue t).run Tryz.prog w = .ok v w) (hv : v.cells.toList = cs) (hc : 0 < cs.length) (hL : PJ w X S0 S base N L ds)
    (h : ∀ Y B, PJ w Y S0 S base N (L ++ [(B, cs)]) ds → wpList Tryz.prog ops Q rest (a.put o.dst (.pointer (some ⟨B, 0, none⟩))) Y) : wpList Tryz.prog ops Q (o :: rest) a X :=
  vl hw (ex_al t cs ho hz hv) (h _ _ (hL.box cs t hc))
theorem stP {b p : Nat} {cs vs : List Value} {v : Value} {x y : Operand} (i : Nat) (t : TypeId) (hw : Region.wanted o (yielded ops a.tmps) = true) (ho : o.op = .store t x y) (hx : a.eval x = .pointer (some ⟨b, p, none⟩)) (hy : a.eval y = v) (hv : v.cells.toList = vs) (h1 : ∀ u ∈ vs, u.oneCell' = true) (hi : (Tryz.prog.info? t).map (·.size) = some vs.length) (hL : PJ w X S0 S base N L ds) (hl : L[i]? = some (b, cs)) (hp : p + vs.length ≤ cs.length)
    (h : ∀ Y, PJ w Y S0 S base N (L.set i (b, cput cs p vs)) ds → wpList Tryz.prog ops Q rest (a.put o.dst undef) Y) : wpList Tryz.prog ops Q (o :: rest) a X :=
  skv hw (ex_store ho hx hy hv h1 hi (hL.get i hl) hp) (h _ (hL.put i hl p vs hp))
theorem stR {b p : Nat} {cs vs : List Value} {v : Value} {x y : Operand} (i : Nat) (t : TypeId) (hF : ∀ f, F.fn f) (hw : Region.wanted o (yielded ops a.tmps) = true) (hnd : ∀ c, o.op ≠ .defer c) (ho : o.op = .store t x y) (hx : a.eval x = .pointer (some ⟨b, p, none⟩)) (hy : a.eval y = v) (hv : v.cells.toList = vs) (h1 : ∀ u ∈ vs, u.oneCell' = true) (hi : (Tryz.prog.info? t).map (·.size) = some vs.length) (hL : PK w W0 X S0 S base N L ds) (hl : L[i]? = some (b, cs)) (hp : p + vs.length ≤ cs.length)
    (h : ∀ Y, PK w W0 Y S0 S base N (L.set i (b, cput cs p vs)) ds → wpListIn F n Tryz.prog ops Q rest (a.put o.dst undef) Y) : wpListIn F n Tryz.prog ops Q (o :: rest) a X :=
  inS hF hw hnd (ex_store ho hx hy hv h1 hi (hL.get i hl) hp) (h _ (hL.put i hl p vs hp))
/-- The count of steps in a round. -/
theorem tkR {b : Nat} {z : Int} {x y : Operand} (hF : ∀ f, F.fn f) (hw : Region.wanted o (yielded ops a.tmps) = true) (hnd : ∀ c, o.op ≠ .defer c) (ho : o.op = .store 3 x y) (hb : b = S.P) (hx : a.eval x = .pointer (some ⟨b, 4, none⟩)) (hy : a.eval y = .int .i64 z) (hL : PK w W0 X S0 S base N L ds)
    (h : ∀ Y, PK w W0 Y S0 { S with left := z } base N L ds → wpListIn F n Tryz.prog ops Q rest (a.put o.dst undef) Y) : wpListIn F n Tryz.prog ops Q (o :: rest) a X := by
  subst hb
  exact inS hF hw hnd (ex_store (vs := [.int .i64 z]) ho hx hy rfl (by simp [Value.oneCell']) (by kernel_rfl) hL.pj.is.bs.hold (by simp [PS.cs, pairCs])) (h _ (hL.tick z))
end
