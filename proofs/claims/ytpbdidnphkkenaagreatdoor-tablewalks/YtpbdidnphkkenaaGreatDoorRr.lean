import Derived.Test.YtpbdidnphkkenaaGreatDoorRq
import Derived.RangeFuncWrites
import Derived.Sort.LoopGhostIn
set_option linter.all false
namespace Go.Proofs.YtpbdidnphkkenaaGreatDoor
section
open Go Go.RowKit
section
variable {σ α : Type} {F : Fence} {n : Nat} {P : Program}
/-- What abides new blocks. -/
def AbN {β : Type} (J : β → World → Prop) : Prop := ∀ s X Y, J s X → X.grownBy Y none → J s Y
/-- What an iterator owes that hands out, in state s, an element x with V s x; whatever holds of states between rounds says Tab. -/
def SeqBy (F : Fence) (n : Nat) (P : Program) (g : Nat) (lb : Array Value) (encs : α → Array Value) (Tab : σ → World → Prop) (V : σ → α → Prop) (nx : σ → α → σ → Prop) (Fin : σ → Prop) (s0 : σ) (w : World) : Prop :=
  ∀ (l : Nat) (J : σ → World → Prop) (Jx : Unit → World → Prop) (W : World), Below w.heap.size w W → AbN J → AbN Jx → (∀ s X, J s X → Tab s X) →
    (∀ s x X, J s X → V s x → YieldAt F (n - 1) P l (encs x) X fun e Y => (e = .returned (.bool true) ∧ ∃ s', nx s x s' ∧ J s' Y) ∨ (e = .returned (.bool false) ∧ Jx () Y)) → J s0 W →
    CallsIn F n P g (#[.func (.yield l) #[] #[]] ++ lb) W fun e Y => (∃ v, e = .returned v) ∧ ((∃ s, Fin s ∧ J s Y) ∨ Jx () Y)
/-- A loop's record, or a block of deferred calls. -/
def LD (o : Obj) : Prop := (∃ q, o = .loop q) ∨ ∃ d, o = .deferred d
/-- What is of loops and deferred calls is as it was. -/
def KL (X Y : World) : Prop := ∀ (k : Nat) (o : Obj), X.heap[k]? = some o → LD o → Y.heap[k]? = some o
theorem KL.refl (X : World) : KL X X := fun _ _ h _ => h
theorem KL.trans {X Y Z : World} (h : KL X Y) (k : KL Y Z) : KL X Z := fun n o h1 h2 => k n o (h n o h1 h2) h2
/-- How a round's body may be left. -/
def byPost (B : Nat) (I : σ → World → Prop) (Ix : Code → World → Prop) (nx : σ → α → σ → Prop) (s : σ) (x : α) (W : World) : Exit → Act → World → Prop
  | .normal, _, Y => KL W Y ∧ ∃ s', nx s x s' ∧ I s' Y
  | .ret, _, Y => KL W Y ∧ Ix .ret Y
  | .exit id, _, Y => KL W Y ∧ Ix (.exit id) Y
  | .goto t, _, Y => KL W Y ∧ Ix (.goto t) Y
  | .panic _, _, _ => False
  | .outgrown, _, _ => False
/-- The loop's record, at its states. -/
def recAt (fn : FuncId) (a : Act) (ps : Array Tmp) (assign body : Code) (D : Nat) (st : LoopState) (pe : Option Code) : Loop := { state := st, pending := pe, fn, tmps := a.tmps, params := ps, assign, body, defers := D }
/-- The two blocks of book-keeping, as they lie between rounds. -/
def Kept (L D : Nat) (r : Loop) (W : World) : Prop := W.heap[L]? = some (.loop r) ∧ W.heap[D]? = some (.deferred (some []))
theorem Kept.grown {L D : Nat} {r : Loop} {A B : World} {row : Option Nat} (h : Kept L D r A) (hg : A.grownBy B row) (hr : ∀ q, row = some q → ∃ o : Obj, A.heap[q]? = some o ∧ o.isWalk = true) : Kept L D r B :=
  ⟨(grownBy_keeps hg hr h.1 rfl).trans h.1, (grownBy_keeps hg hr h.2 rfl).trans h.2⟩
theorem Kept.from {L D : Nat} {r : Loop} {X Y : World} (h : Kept L D r X) (hk : KL X Y) : Kept L D r Y := ⟨hk _ _ h.1 (.inl ⟨_, rfl⟩), hk _ _ h.2 (.inr ⟨_, rfl⟩)⟩
theorem Kept.put {L D : Nat} {r r' : Loop} {X : World} (h : Kept L D r X) (hne : L ≠ D) : Kept L D r' (X.putObj L (.loop r')) :=
  ⟨World.putObj_heap_same (Array.getElem?_eq_some_iff.1 h.1).1, (World.putObj_heap_other hne.symm).trans h.2⟩
/-- What abides new blocks, and changes of loops' records and walks' objects. -/
def OwnL {β : Type} (B : Nat) (I : β → World → Prop) : Prop := ∀ s X Y row, I s X → X.grownBy Y row → (∀ r, row = some r → B ≤ r ∧ ∃ o : Obj, X.heap[r]? = some o ∧ ∃ q, o = .loop q) → I s Y
theorem OwnL.alloc {β : Type} {B : Nat} {I : β → World → Prop} (h : OwnL B I) {s : β} {W : World} (o : Obj) (hs : I s W) : I s (W.alloc o) := by
  have hb : Below W.heap.size W (W.alloc o) := (Below.refl _ _).alloc (Nat.le_refl _) _
  exact h s W _ none hs ⟨hb.os, hb.tape, hb.output, hb.size, fun k hk _ => hb.block k hk⟩ (fun r e => by cases e)
theorem OwnL.putLoop {β : Type} {B : Nat} {I : β → World → Prop} (h : OwnL B I) {s : β} {W : World} {l : Nat} {q : Loop} (o : Obj) (hs : I s W) (hl : B ≤ l) (hq : W.heap[l]? = some (.loop q)) : I s (W.putObj l o) :=
  h s W _ (some l) hs (grownBy_putObj' W l o) (fun r e => by cases e; exact ⟨hl, _, hq, q, rfl⟩)
theorem range_by {g : Operand} {ps : Array Tmp} {assign body : Code} {Q : Exit → Act → World → Prop} {a : Act} {w : World}
    (hro : F.round = none) (h1 : 1 ≤ n) {gf : Nat} {lb : Array Value} (hg : a.eval g = .func (.func gf) #[] lb) (hFg : F.fn gf) (eg : ∀ args w, (callFunc gf args).run P w = .ok (.enter gf args) w)
    {encs : α → Array Value} {Tab : σ → World → Prop} {V : σ → α → Prop} {nx : σ → α → σ → Prop} {Fin : σ → Prop} {s0 : σ} {w0 : World} (hseq : SeqBy F (n - 1) P gf lb encs Tab V nx Fin s0 w0) (hb0 : Below w0.heap.size w0 w) (hps : ∀ x, (encs x).size = ps.size)
    (I : σ → World → Prop) (Ix : Code → World → Prop) (hIT : ∀ s X, I s X → Tab s X) (hI : OwnL w.heap.size I) (hIx : ∀ c, OwnL w.heap.size (fun (_ : Unit) W => Ix c W)) (h0 : I s0 w) (Ax : α → Act → World → Prop) (hAx : ∀ x a', OwnFrom w.heap.size (fun (_ : Unit) W => Ax x a' W))
    (hassign : ∀ (l : Nat) (s : σ) (x : α) (W : World) (K : Act → World → Prop), I s W → V s x → (∀ a' Y, KL W Y → I s Y → Ax x a' Y → K a' Y) →
      assign.wpIn (F.inRound l) (n - 1 - 1) P (Exit.then K (fun _ _ _ => False)) { tmps := (ps.zip (encs x)).foldl (fun t (p, v) => t.setIfInBounds p v) a.tmps, defers := [] } W)
    (hbody : ∀ (l : Nat) (s : σ) (x : α) (a' : Act) (W : World), w.heap.size ≤ l → I s W → V s x → Ax x a' W → body.wpIn (F.inRound l) (n - 1 - 1) P (byPost w.heap.size I Ix nx s x W) a' W)
    (hdone : ∀ (D : Nat) (s : σ) (W : World), w.heap.size ≤ D → Fin s → I s W → W.heap[D]? = some (.deferred (some [])) → Q .normal { a with defers := { target := .collected D, args := #[] } :: a.defers } W)
    (hstop : ∀ (D : Nat) (c : Code) (W : World), w.heap.size ≤ D → Ix c W → W.heap[D]? = some (.deferred (some [])) → c.wpIn F n P Q { a with defers := { target := .collected D, args := #[] } :: a.defers } W) :
    (Code.rangeFunc g ps assign body).wpIn F n P Q a w := by
  refine wpIn_rangeFunc fun fn hfn => ?_
  have hnd : w.heap.size + 1 ≠ w.heap.size := by omega
  have hk1 : Kept (w.heap.size + 1) w.heap.size (recAt fn a ps assign body w.heap.size .ready none) ((w.alloc (.deferred (some []))).alloc (.loop (recAt fn a ps assign body w.heap.size .ready none))) := by
    refine ⟨?_, (Below.heap_alloc _ _ _ (by simp)).trans (World.alloc_heap_new w _)⟩
    have := World.alloc_heap_new (w.alloc (.deferred (some []))) (.loop (recAt fn a ps assign body w.heap.size .ready none))
    rwa [World.size_alloc] at this
  have hz1 : w.heap.size ≤ ((w.alloc (.deferred (some []))).alloc (.loop (recAt fn a ps assign body w.heap.size .ready none))).heap.size := by simp; omega
  have hen : (Instr.enterLoop fn a.tmps ps assign body F.round).run P w = .ok (w.heap.size + 1, [{ target := .collected w.heap.size, args := #[] }]) ((w.alloc (.deferred (some []))).alloc (.loop (recAt fn a ps assign body w.heap.size .ready none))) := by
    rw [hro]
    exact run_enterLoop_outer _ _ _ _ _
  have hI1 : I s0 ((w.alloc (.deferred (some []))).alloc (.loop (recAt fn a ps assign body w.heap.size .ready none))) := hI.alloc _ (hI.alloc _ h0)
  have hb1 : Below w0.heap.size w0 ((w.alloc (.deferred (some []))).alloc (.loop (recAt fn a ps assign body w.heap.size .ready none))) := hb0.trans ((((Below.refl _ w).alloc (Nat.le_refl _) _).alloc (by simp) _).mono hb0.size)
  generalize (w.alloc (.deferred (some []))).alloc (.loop (recAt fn a ps assign body w.heap.size .ready none)) = X at hk1 hz1 hen hI1 hb1
  refine ⟨_, _, X, { target := .fn (.func gf) lb, args := #[.func (.yield (w.heap.size + 1)) #[] #[]] }, X, gf, #[.func (.yield (w.heap.size + 1)) #[] #[]] ++ lb, X, hen, ?_, ?_, ?_, fun _ => h1, ?_⟩
  · simp only [resolve, hg]
    simp [go_sem]
  · intro f hf
    simp [Target.leads] at hf
    exact hf ▸ hFg
  · simp [invoke, go_sem, eg]
  refine (hseq (w.heap.size + 1) (fun s W => I s W ∧ Kept (w.heap.size + 1) w.heap.size (recAt fn a ps assign body w.heap.size .ready none) W)
    (fun _ W => ∃ c, Ix c W ∧ Kept (w.heap.size + 1) w.heap.size (recAt fn a ps assign body w.heap.size .done (some c)) W) X hb1
    (fun s A B hs hgr => ⟨hI s A B none hs.1 hgr (fun r e => by cases e), hs.2.grown hgr (fun q e => by cases e)⟩)
    (fun _ A B hs hgr => by
      obtain ⟨c, h2, h3⟩ := hs
      exact ⟨c, hIx c () A B none h2 hgr (fun r e => by cases e), h3.grown hgr (fun q e => by cases e)⟩)
    (fun s W h => hIT s W h.1) ?_ ⟨hI1, hk1⟩).mono ?_
  · rintro s x W ⟨hi, hk⟩ hV
    have hy := run_yield (P := P) (args := encs x) hk.1 (hps x)
    refine ⟨fn, _, assign, body, hy, roundIn_of_wpIn hfn (hassign _ s x W _ hi hV fun a' Y hkf hiY hax => ?_)⟩
    have hkY := hk.from hkf
    have hkB := hkY.put (r' := recAt fn a ps assign body w.heap.size .busy none) hnd
    refine ⟨_, run_beginRound hkY.1 rfl, ?_⟩
    refine wpIn_mono (hbody _ s x a' _ (by omega) (hI.putLoop _ hiY (by omega) hkY.1) hV ((hAx x a').putObj (s := ()) _ hax (by omega) hkY.1 rfl)) ?_
    have fin : ∀ (jump : Option Code) (Z : World), KL (Y.putObj (w.heap.size + 1) (.loop (recAt fn a ps assign body w.heap.size .busy none))) Z →
        (Instr.endRound (w.heap.size + 1) jump).run P Z = .ok (.bool jump.isNone) (Z.putObj (w.heap.size + 1) (.loop (recAt fn a ps assign body w.heap.size (if jump.isNone then .ready else .done) jump))) ∧ Z.heap[w.heap.size + 1]? = some (.loop (recAt fn a ps assign body w.heap.size .busy none)) ∧
        Kept (w.heap.size + 1) w.heap.size (recAt fn a ps assign body w.heap.size (if jump.isNone then .ready else .done) jump) (Z.putObj (w.heap.size + 1) (.loop (recAt fn a ps assign body w.heap.size (if jump.isNone then .ready else .done) jump))) := fun jump Z hkz => by
      have hZ := hkB.from hkz
      exact ⟨run_endRound (P := P) jump hZ.1, hZ.1, hZ.put hnd⟩
    intro e a3 Z hp
    match e, hp with
    | .normal, ⟨hkz, s', hn, hi'⟩ =>
      obtain ⟨hr, hl, hk'⟩ := fin none Z hkz
      exact ⟨_, _, hr, .inl ⟨rfl, s', hn, hI.putLoop _ hi' (by omega) hl, hk'⟩⟩
    | .ret, ⟨hkz, hi'⟩ =>
      obtain ⟨hr, hl, hk'⟩ := fin (some .ret) Z hkz
      exact ⟨_, _, hr, .inr ⟨rfl, .ret, (hIx _).putLoop (s := ()) _ hi' (by omega) hl, hk'⟩⟩
    | .exit id, ⟨hkz, hi'⟩ =>
      obtain ⟨hr, hl, hk'⟩ := fin (some (.exit id)) Z hkz
      exact ⟨_, _, hr, .inr ⟨rfl, .exit id, (hIx _).putLoop (s := ()) _ hi' (by omega) hl, hk'⟩⟩
    | .goto t, ⟨hkz, hi'⟩ =>
      obtain ⟨hr, hl, hk'⟩ := fin (some (.goto t)) Z hkz
      exact ⟨_, _, hr, .inr ⟨rfl, .goto t, (hIx _).putLoop (s := ()) _ hi' (by omega) hl, hk'⟩⟩
  · rintro e Y ⟨⟨v, rfl⟩, ⟨s, hF, hi, hk⟩ | ⟨c, hi, hk⟩⟩
    · exact ⟨none, _, run_endLoop (P := P) hk.1 (by simp [recAt]), hdone _ s _ (Nat.le_refl _) hF (hI.putLoop _ hi (by omega) hk.1) ((World.putObj_heap_other hnd.symm).trans hk.2)⟩
    · exact ⟨some c, _, run_endLoop (P := P) hk.1 (by simp [recAt]), hstop _ c _ (Nat.le_refl _) ((hIx c).putLoop (s := ()) _ hi (by omega) hk.1) ((World.putObj_heap_other hnd.symm).trans hk.2)⟩
end
end
end Go.Proofs.YtpbdidnphkkenaaGreatDoor
namespace Go.Proofs.YtpbdidnphkkenaaGreatDoor
set_option maxHeartbeats 1000000
section
open Go Go.Proofs Go.Maps Go.RowKit
/-- A walk under way: the table as it is now, the number handed out last, the row that bears it, and how many rounds more there can be. -/
structure WS where
  T : TT
  m : Nat
  rb : Option Nat
  left : Nat
structure WTab (t Bn : Nat) (s : WS) (W : World) : Prop where
  is : s.T.Is W
  tq : s.T.t = t
  last : s.T.last < 4000000
  num : s.m ≤ s.T.last
  box : W.cell? ⟨Bn, 0, none⟩ = some (.pointer (some ⟨t, 0, none⟩))
  row : ∀ b, s.rb = some b → W.cell? ⟨b, 20, none⟩ = some (.int .u64 s.m)
def WV (s : WS) (r : RR) : Prop := s.T.next s.m = some r
def WN (s : WS) (r : RR) (s' : WS) : Prop := s'.m = r.n ∧ s'.rb = some r.b ∧ s'.left < s.left
def WF (s : WS) : Prop := s.T.next s.m = none
def encR (r : RR) : Array Value := #[r.k.agg, r.d.agg]
set_option maxHeartbeats 4000000 in
set_option maxRecDepth 100000 in
theorem each_by (n : Nat) (hn : 1 ≤ n) (t Bn : Nat) (s0 : WS) (hm0 : s0.m = 0) (w : World) : SeqBy Fence.wide n Tryz.prog 49 #[.pointer (some ⟨Bn, 0, none⟩)] encR (WTab t Bn) WV WN WF s0 w := by
  intro l J Jx W hW hJ hJx hJT hY h0
  have hT0 := hJT s0 W h0
  have HN := hide (next50 s0.T 0 W hT0.is (by have := hT0.last; omega) (by omega))
  rw [hT0.tq] at HN
  have hBX := hT0.box
  have HJT := hide hJT
  have HAb := hide hJ
  have HY := hide hY
  have HJ0 := hide h0
  clear hT0 hJT hJ hY h0
  refine callsIn_of_wp Tryz.func49 rfl trivial ?_ rfl
  simp only [Tryz.ntmps49, List.size_toArray, List.length_cons, List.length_nil, Nat.reduceAdd, Nat.reduceSub, Array.replicate_succ, Array.replicate_zero, List.push_toArray, List.append_toArray, List.nil_append, List.cons_append]
  gi_wp2_with fail
  refine ⟨trivial, (callsIn_wide.2 (unhide HN)).mono ?_⟩
  rintro e w1 ⟨rfl, rfl⟩
  gi_wp2
  gi_loopg [3] (s0.left + 1) (fun gm s3 wr => ∃ s : WS, s3 = pv ((s.T.next s.m).map (·.b)) ∧ s.left + 1 ≤ gm ∧ Hid (J s wr))
  case atStart => exact ⟨s0, by rw [hm0], Nat.le_refl _, HJ0⟩
  case round =>
    obtain ⟨s, rfl, hgm, HJ⟩ := hrel
    clear HN hBX HJ0 hW hJx
    cases hnx : s.T.next s.m with
    | none =>
      rw [show pv ((none : Option RR).map (·.b)) = .pointer none from rfl]
      gi_wp2
      refine wpIn_region_any (by kernel_rfl) ?_
      refine ip 0 (some 6) (.pointer none) rfl (by kernel_rfl) (by kernel_rfl) (by kernel_rfl) (fun _ _ _ h => h) (by kernel_rfl) (by kernel_rfl) (fun _ => by kernel_rfl) (fun _ => by kernel_rfl) ?_
      simp only [Act.put, nzA, nzB, nzC]
      refine ip 1 (some 7) (.bool false) rfl (by kernel_rfl) (by kernel_rfl) (by kernel_rfl) (fun _ _ _ h => h) (by kernel_rfl) (by kernel_rfl) (fun _ => by kernel_rfl) (fun _ => by kernel_rfl) ?_
      simp only [Act.put, nzA, nzB, nzC]
      refine ip 2 (some 8) (.bool false) rfl (by kernel_rfl) (by kernel_rfl) (by kernel_rfl) (fun _ _ _ h => h) (by kernel_rfl) (by kernel_rfl) (fun _ => by kernel_rfl) (fun _ => by kernel_rfl) ?_
      simp only [Act.put, nzA, nzB, nzC]
      refine isk 3 (some 9) rfl (by kernel_rfl) (by kernel_rfl) (by kernel_rfl) (fun _ _ _ h => h) (by kernel_rfl) (by kernel_rfl) (fun _ => by kernel_rfl) ?_
      simp only [Act.put, nzA, nzB, nzC]
      refine isk 4 (some 10) rfl (by kernel_rfl) (by kernel_rfl) (by kernel_rfl) (fun _ _ _ h => h) (by kernel_rfl) (by kernel_rfl) (fun _ => by kernel_rfl) ?_
      simp only [Act.put, nzA, nzB, nzC]
      refine isk 5 (some 11) rfl (by kernel_rfl) (by kernel_rfl) (by kernel_rfl) (fun _ _ _ h => h) (by kernel_rfl) (by kernel_rfl) (fun _ => by kernel_rfl) ?_
      simp only [Act.put, nzA, nzB, nzC]
      refine isk 6 (some 12) rfl (by kernel_rfl) (by kernel_rfl) (by kernel_rfl) (fun _ _ _ h => h) (by kernel_rfl) (by kernel_rfl) (fun _ => by kernel_rfl) ?_
      simp only [Act.put, nzA, nzB, nzC]
      refine isk 7 (some 13) rfl (by kernel_rfl) (by kernel_rfl) (by kernel_rfl) (fun _ _ _ h => h) (by kernel_rfl) (by kernel_rfl) (fun _ => by kernel_rfl) ?_
      simp only [Act.put, nzA, nzB, nzC]
      refine isk 8 (some 14) rfl (by kernel_rfl) (by kernel_rfl) (by kernel_rfl) (fun _ _ _ h => h) (by kernel_rfl) (by kernel_rfl) (fun _ => by kernel_rfl) ?_
      simp only [Act.put, nzA, nzB, nzC]
      refine isk 9 (some 15) rfl (by kernel_rfl) (by kernel_rfl) (by kernel_rfl) (fun _ _ _ h => h) (by kernel_rfl) (by kernel_rfl) (fun _ => by kernel_rfl) ?_
      simp only [Act.put, nzA, nzB, nzC]
      refine isk 10 (some 16) rfl (by kernel_rfl) (by kernel_rfl) (by kernel_rfl) (fun _ _ _ h => h) (by kernel_rfl) (by kernel_rfl) (fun _ => by kernel_rfl) ?_
      simp only [Act.put, nzA, nzB, nzC]
      refine isk 11 (some 17) rfl (by kernel_rfl) (by kernel_rfl) (by kernel_rfl) (fun _ _ _ h => h) (by kernel_rfl) (by kernel_rfl) (fun _ => by kernel_rfl) ?_
      simp only [Act.put, nzA, nzB, nzC]
      refine isk 12 (some 18) rfl (by kernel_rfl) (by kernel_rfl) (by kernel_rfl) (fun _ _ _ h => h) (by kernel_rfl) (by kernel_rfl) (fun _ => by kernel_rfl) ?_
      simp only [Act.put, nzA, nzB, nzC]
      refine isk 13 (some 19) rfl (by kernel_rfl) (by kernel_rfl) (by kernel_rfl) (fun _ _ _ h => h) (by kernel_rfl) (by kernel_rfl) (fun _ => by kernel_rfl) ?_
      simp only [Act.put, nzA, nzB, nzC]
      refine isk 14 (some 20) rfl (by kernel_rfl) (by kernel_rfl) (by kernel_rfl) (fun _ _ _ h => h) (by kernel_rfl) (by kernel_rfl) (fun _ => by kernel_rfl) ?_
      simp only [Act.put, nzA, nzB, nzC]
      refine ip 15 (some 21) (.bool false) rfl (by kernel_rfl) (by kernel_rfl) (by kernel_rfl) (fun _ _ _ h => h) (by kernel_rfl) (by kernel_rfl) (fun _ => by kernel_rfl) (fun _ => by kernel_rfl) ?_
      simp only [Act.put, nzA, nzB, nzC]
      refine wpAnyIn_done (by kernel_rfl) ?_ _
      try simp only [Act.put, nzA, nzB, nzC]
      gi_wp2
      go_end0
      exact ⟨⟨_, rfl⟩, .inl ⟨s, hnx, (unhide HAb) s wr wr.drew (unhide HJ) (grown_of_below ((Below.refl _ _).drew))⟩⟩
    | some r =>
      rw [show pv ((some r : Option RR).map (·.b)) = .pointer (some ⟨r.b, 0, none⟩) from rfl]
      obtain ⟨hrm, hrn, hrg⟩ := next_mem hnx
      have HR := hide (((unhide HJT) s wr (unhide HJ)).is.rows r hrm)
      have hJ1 := (unhide HAb) s wr wr.drew (unhide HJ) (grown_of_below ((Below.refl _ _).drew))
      obtain ⟨fn, tmps, asg, bd, hy, hRd⟩ := (unhide HY) s r wr.drew hJ1 hnx
      have HRd := hide hRd
      have Hy : Hid ((Instr.yield l #[r.k.agg, r.d.agg]).run Tryz.prog wr.drew = .ok (.round l fn tmps asg bd) wr.drew) := hide hy
      clear hRd hy hJ1 hrm hrn hrg
      gi_wp2
      refine wpIn_region_any (by kernel_rfl) ?_
      refine ip 0 (some 6) (.pointer (some ⟨r.b, 0, none⟩)) rfl (by kernel_rfl) (by kernel_rfl) (by kernel_rfl) (fun _ _ _ h => h) (by kernel_rfl) (by kernel_rfl) (fun _ => by kernel_rfl) (fun _ => by kernel_rfl) ?_
      simp only [Act.put, nzA, nzB, nzC]
      refine ip 1 (some 7) (.bool true) rfl (by kernel_rfl) (by kernel_rfl) (by kernel_rfl) (fun _ _ _ h => h) (by kernel_rfl) (by kernel_rfl) (fun _ => by kernel_rfl) (fun _ => by kernel_rfl) ?_
      simp only [Act.put, nzA, nzB, nzC]
      refine ip 2 (some 8) (.bool true) rfl (by kernel_rfl) (by kernel_rfl) (by kernel_rfl) (fun _ _ _ h => h) (by kernel_rfl) (by kernel_rfl) (fun _ => by kernel_rfl) (fun _ => by kernel_rfl) ?_
      simp only [Act.put, nzA, nzB, nzC]
      refine ip 3 (some 9) (.func (.yield l) #[] #[]) rfl (by kernel_rfl) (by kernel_rfl) (by kernel_rfl) (fun _ _ _ h => h) (by kernel_rfl) (by kernel_rfl) (fun _ => by kernel_rfl) (fun _ => by kernel_rfl) ?_
      simp only [Act.put, nzA, nzB, nzC]
      refine ip 4 (some 10) (.pointer (some ⟨r.b, 0, none⟩)) rfl (by kernel_rfl) (by kernel_rfl) (by kernel_rfl) (fun _ _ _ h => h) (by kernel_rfl) (by kernel_rfl) (fun _ => by kernel_rfl) (fun _ => by kernel_rfl) ?_
      simp only [Act.put, nzA, nzB, nzC]
      refine ip 5 (some 11) (.pointer (some ⟨r.b, 0, none⟩)) rfl (by kernel_rfl) (by kernel_rfl) (by kernel_rfl) (fun _ _ _ h => h) (by kernel_rfl) (by kernel_rfl) (fun _ => by kernel_rfl) (fun _ => by kernel_rfl) ?_
      simp only [Act.put, nzA, nzB, nzC]
      refine ip 6 (some 12) (.pointer (some ⟨r.b, 0, none⟩)) rfl (by kernel_rfl) (by kernel_rfl) (by kernel_rfl) (fun _ _ _ h => h) (by kernel_rfl) (by kernel_rfl) (fun _ => by kernel_rfl) (fun _ => by kernel_rfl) ?_
      simp only [Act.put, nzA, nzB, nzC]
      refine ip 7 (some 13) (.pointer (some ⟨r.b, 0, none⟩)) rfl (by kernel_rfl) (by kernel_rfl) (by kernel_rfl) (fun _ _ _ h => h) (by kernel_rfl) (by kernel_rfl) (fun _ => by kernel_rfl) (fun _ => by kernel_rfl) ?_
      simp only [Act.put, nzA, nzB, nzC]
      refine ip 9 (some 15) (.pointer (some ⟨r.b, 0, none⟩)) rfl (by kernel_rfl) (by kernel_rfl) (by kernel_rfl) (fun _ _ _ h => h) (by kernel_rfl) (by kernel_rfl) (fun _ => by kernel_rfl) (fun _ => by kernel_rfl) ?_
      simp only [Act.put, nzA, nzB, nzC]
      refine ip 10 (some 16) (.pointer (some ⟨r.b, 0, none⟩)) rfl (by kernel_rfl) (by kernel_rfl) (by kernel_rfl) (fun _ _ _ h => h) (by kernel_rfl) (by kernel_rfl) (fun _ => by kernel_rfl) (fun _ => by kernel_rfl) ?_
      simp only [Act.put, nzA, nzB, nzC]
      refine ip 11 (some 17) (.pointer (some ⟨r.b, 0, none⟩)) rfl (by kernel_rfl) (by kernel_rfl) (by kernel_rfl) (fun _ _ _ h => h) (by kernel_rfl) (by kernel_rfl) (fun _ => by kernel_rfl) (fun _ => by kernel_rfl) ?_
      simp only [Act.put, nzA, nzB, nzC]
      refine ip 12 (some 18) (.pointer (some ⟨r.b, 2, none⟩)) rfl (by kernel_rfl) (by kernel_rfl) (by kernel_rfl) (fun _ _ _ h => h) (by kernel_rfl) (by kernel_rfl) (fun _ => by kernel_rfl) (fun _ => by kernel_rfl) ?_
      simp only [Act.put, nzA, nzB, nzC]
      refine wpAnyIn_ready (rs := [8, 13]) (by kernel_rfl) (by simp) (ival 8 (some 14) rfl (by kernel_rfl) (by kernel_rfl) (ex_loadN (vs := r.k.cs) 33 2 row33x siz33 rfl rfl ((Holds.block (unhide HR) rfl)) rfl rfl) ?_ (ival 13 (some 19) rfl (by kernel_rfl) (by kernel_rfl) (ex_loadN (vs := r.d.cs) 39 18 row39 siz39 rfl rfl ((Holds.block (unhide HR) rfl)) rfl rfl) ?_ AllReadyIn.nil))
      · simp only [Act.put, nzA, nzB, nzC]
        refine wpAnyIn_ready (rs := [13]) (by kernel_rfl) (by simp) (ival 13 (some 19) rfl (by kernel_rfl) (by kernel_rfl) (ex_loadN (vs := r.d.cs) 39 18 row39 siz39 rfl rfl ((Holds.block (unhide HR) rfl)) rfl rfl) ?_ AllReadyIn.nil)
        simp only [Act.put, nzA, nzB, nzC]
        refine wpAnyIn_ready (rs := [14]) (by kernel_rfl) (by simp) (iround 14 (some 20) rfl (by kernel_rfl) (by kernel_rfl) (Eq.trans (b := (Instr.yield l #[r.k.agg, r.d.agg]).run Tryz.prog wr.drew) (by kernel_rfl) (unhide Hy)) (unhide HRd) ?_ AllReadyIn.nil)
        rintro e W3 (⟨rfl, s2, hn2, hJ3⟩ | ⟨rfl, hJx3⟩)
        · refine ⟨_, rfl, ?_⟩
          simp only [Act.put, nzA, nzB, nzC]
          refine ip 15 (some 21) (.bool true) rfl (by kernel_rfl) (by kernel_rfl) (by kernel_rfl) (fun _ _ _ h => h) (by kernel_rfl) (by kernel_rfl) (fun _ => by kernel_rfl) (fun _ => by kernel_rfl) ?_
          simp only [Act.put, nzA, nzB, nzC]
          refine wpAnyIn_done (by kernel_rfl) ?_ _
          try simp only [Act.put, nzA, nzB, nzC]
          have HJ4 : Hid (J s2 W3.drew) := hide ((unhide HAb) s2 W3 W3.drew hJ3 (grown_of_below ((Below.refl _ _).drew)))
          have HW3 := hide ((unhide HJT) s2 W3 hJ3)
          have HN3 : Hid (W3.cell? ⟨r.b, 20, none⟩ = some (.int .u64 (s2.m : Nat))) := hide ((unhide HW3).row r.b hn2.2.1)
          have HLF : Hid (s2.left < s.left) := hide hn2.2.2
          have HNX := hide (next50 s2.T s2.m W3.drew (unhide HW3).is.drew (by have := (unhide HW3).last; omega) (by have := (unhide HW3).num; have := (unhide HW3).last; omega))
          rw [(unhide HW3).tq] at HNX
          clear hn2 hJ3
          gi_wp2
          refine wpIn_region_any (by kernel_rfl) ?_
          refine ip 1 (some 23) (.pointer (some ⟨r.b, 0, none⟩)) rfl (by kernel_rfl) (by kernel_rfl) (by kernel_rfl) (fun _ _ _ h => h) (by kernel_rfl) (by kernel_rfl) (fun _ => by kernel_rfl) (fun _ => by kernel_rfl) ?_
          simp only [Act.put, nzA, nzB, nzC]
          refine ip 2 (some 24) (.pointer (some ⟨r.b, 0, none⟩)) rfl (by kernel_rfl) (by kernel_rfl) (by kernel_rfl) (fun _ _ _ h => h) (by kernel_rfl) (by kernel_rfl) (fun _ => by kernel_rfl) (fun _ => by kernel_rfl) ?_
          simp only [Act.put, nzA, nzB, nzC]
          refine ip 3 (some 25) (.pointer (some ⟨r.b, 20, none⟩)) rfl (by kernel_rfl) (by kernel_rfl) (by kernel_rfl) (fun _ _ _ h => h) (by kernel_rfl) (by kernel_rfl) (fun _ => by kernel_rfl) (fun _ => by kernel_rfl) ?_
          simp only [Act.put, nzA, nzB, nzC]
          refine wpAnyIn_ready (rs := [0, 4]) (by kernel_rfl) (by simp) (ival 0 (some 22) rfl (by kernel_rfl) (by kernel_rfl) (ex_loadC (W := W3.drew) 26 Tryz.isAgg26 rfl rfl (unhide HW3).box) ?_ (ival 4 (some 26) rfl (by kernel_rfl) (by kernel_rfl) (ex_loadC (W := W3.drew) 71 Tryz.isAgg71 rfl rfl (unhide HN3)) ?_ AllReadyIn.nil))
          · simp only [Act.put, nzA, nzB, nzC]
            refine wpAnyIn_ready (rs := [4]) (by kernel_rfl) (by simp) (ival 4 (some 26) rfl (by kernel_rfl) (by kernel_rfl) (ex_loadC (W := W3.drew) 71 Tryz.isAgg71 rfl rfl (unhide HN3)) ?_ AllReadyIn.nil)
            simp only [Act.put, nzA, nzB, nzC]
            refine wpAnyIn_ready (rs := [5]) (by kernel_rfl) (by simp) (icall 5 (some 27) rfl (by kernel_rfl) (by kernel_rfl) (by kernel_rfl) (unhide HNX) ?_ AllReadyIn.nil)
            rintro e X ⟨rfl, rfl⟩
            refine ⟨_, rfl, ?_⟩
            simp only [Act.put, nzA, nzB, nzC]
            refine ip 6 (some 3) (pv ((s2.T.next s2.m).map (·.b))) rfl (by kernel_rfl) (by kernel_rfl) (by kernel_rfl) (fun _ _ _ h => h) (by kernel_rfl) (by kernel_rfl) (fun _ => by kernel_rfl) (fun _ => by kernel_rfl) ?_
            simp only [Act.put, nzA, nzB, nzC]
            refine wpAnyIn_done (by kernel_rfl) ?_ _
            try simp only [Act.put, nzA, nzB, nzC]
            gi_wp2
            gi_roundg (s2.left + 1)
            case measure => have := unhide HLF; omega
            case rel => exact ⟨s2, rfl, Nat.le_refl _, HJ4⟩
          · simp only [Act.put, nzA, nzB, nzC]
            refine wpAnyIn_ready (rs := [0]) (by kernel_rfl) (by simp) (ival 0 (some 22) rfl (by kernel_rfl) (by kernel_rfl) (ex_loadC (W := W3.drew) 26 Tryz.isAgg26 rfl rfl (unhide HW3).box) ?_ AllReadyIn.nil)
            simp only [Act.put, nzA, nzB, nzC]
            refine wpAnyIn_ready (rs := [5]) (by kernel_rfl) (by simp) (icall 5 (some 27) rfl (by kernel_rfl) (by kernel_rfl) (by kernel_rfl) (unhide HNX) ?_ AllReadyIn.nil)
            rintro e X ⟨rfl, rfl⟩
            refine ⟨_, rfl, ?_⟩
            simp only [Act.put, nzA, nzB, nzC]
            refine ip 6 (some 3) (pv ((s2.T.next s2.m).map (·.b))) rfl (by kernel_rfl) (by kernel_rfl) (by kernel_rfl) (fun _ _ _ h => h) (by kernel_rfl) (by kernel_rfl) (fun _ => by kernel_rfl) (fun _ => by kernel_rfl) ?_
            simp only [Act.put, nzA, nzB, nzC]
            refine wpAnyIn_done (by kernel_rfl) ?_ _
            try simp only [Act.put, nzA, nzB, nzC]
            gi_wp2
            gi_roundg (s2.left + 1)
            case measure => have := unhide HLF; omega
            case rel => exact ⟨s2, rfl, Nat.le_refl _, HJ4⟩
        · refine ⟨_, rfl, ?_⟩
          simp only [Act.put, nzA, nzB, nzC]
          refine ip 15 (some 21) (.bool false) rfl (by kernel_rfl) (by kernel_rfl) (by kernel_rfl) (fun _ _ _ h => h) (by kernel_rfl) (by kernel_rfl) (fun _ => by kernel_rfl) (fun _ => by kernel_rfl) ?_
          simp only [Act.put, nzA, nzB, nzC]
          refine wpAnyIn_done (by kernel_rfl) ?_ _
          try simp only [Act.put, nzA, nzB, nzC]
          have HJx := hide hJx3
          clear hJx3
          gi_wp2
          go_end0
          exact ⟨⟨_, rfl⟩, .inr (unhide HJx)⟩
      · simp only [Act.put, nzA, nzB, nzC]
        refine wpAnyIn_ready (rs := [8]) (by kernel_rfl) (by simp) (ival 8 (some 14) rfl (by kernel_rfl) (by kernel_rfl) (ex_loadN (vs := r.k.cs) 33 2 row33x siz33 rfl rfl ((Holds.block (unhide HR) rfl)) rfl rfl) ?_ AllReadyIn.nil)
        simp only [Act.put, nzA, nzB, nzC]
        refine wpAnyIn_ready (rs := [14]) (by kernel_rfl) (by simp) (iround 14 (some 20) rfl (by kernel_rfl) (by kernel_rfl) (Eq.trans (b := (Instr.yield l #[r.k.agg, r.d.agg]).run Tryz.prog wr.drew) (by kernel_rfl) (unhide Hy)) (unhide HRd) ?_ AllReadyIn.nil)
        rintro e W3 (⟨rfl, s2, hn2, hJ3⟩ | ⟨rfl, hJx3⟩)
        · refine ⟨_, rfl, ?_⟩
          simp only [Act.put, nzA, nzB, nzC]
          refine ip 15 (some 21) (.bool true) rfl (by kernel_rfl) (by kernel_rfl) (by kernel_rfl) (fun _ _ _ h => h) (by kernel_rfl) (by kernel_rfl) (fun _ => by kernel_rfl) (fun _ => by kernel_rfl) ?_
          simp only [Act.put, nzA, nzB, nzC]
          refine wpAnyIn_done (by kernel_rfl) ?_ _
          try simp only [Act.put, nzA, nzB, nzC]
          have HJ4 : Hid (J s2 W3.drew) := hide ((unhide HAb) s2 W3 W3.drew hJ3 (grown_of_below ((Below.refl _ _).drew)))
          have HW3 := hide ((unhide HJT) s2 W3 hJ3)
          have HN3 : Hid (W3.cell? ⟨r.b, 20, none⟩ = some (.int .u64 (s2.m : Nat))) := hide ((unhide HW3).row r.b hn2.2.1)
          have HLF : Hid (s2.left < s.left) := hide hn2.2.2
          have HNX := hide (next50 s2.T s2.m W3.drew (unhide HW3).is.drew (by have := (unhide HW3).last; omega) (by have := (unhide HW3).num; have := (unhide HW3).last; omega))
          rw [(unhide HW3).tq] at HNX
          clear hn2 hJ3
          gi_wp2
          refine wpIn_region_any (by kernel_rfl) ?_
          refine ip 1 (some 23) (.pointer (some ⟨r.b, 0, none⟩)) rfl (by kernel_rfl) (by kernel_rfl) (by kernel_rfl) (fun _ _ _ h => h) (by kernel_rfl) (by kernel_rfl) (fun _ => by kernel_rfl) (fun _ => by kernel_rfl) ?_
          simp only [Act.put, nzA, nzB, nzC]
          refine ip 2 (some 24) (.pointer (some ⟨r.b, 0, none⟩)) rfl (by kernel_rfl) (by kernel_rfl) (by kernel_rfl) (fun _ _ _ h => h) (by kernel_rfl) (by kernel_rfl) (fun _ => by kernel_rfl) (fun _ => by kernel_rfl) ?_
          simp only [Act.put, nzA, nzB, nzC]
          refine ip 3 (some 25) (.pointer (some ⟨r.b, 20, none⟩)) rfl (by kernel_rfl) (by kernel_rfl) (by kernel_rfl) (fun _ _ _ h => h) (by kernel_rfl) (by kernel_rfl) (fun _ => by kernel_rfl) (fun _ => by kernel_rfl) ?_
          simp only [Act.put, nzA, nzB, nzC]
          refine wpAnyIn_ready (rs := [0, 4]) (by kernel_rfl) (by simp) (ival 0 (some 22) rfl (by kernel_rfl) (by kernel_rfl) (ex_loadC (W := W3.drew) 26 Tryz.isAgg26 rfl rfl (unhide HW3).box) ?_ (ival 4 (some 26) rfl (by kernel_rfl) (by kernel_rfl) (ex_loadC (W := W3.drew) 71 Tryz.isAgg71 rfl rfl (unhide HN3)) ?_ AllReadyIn.nil))
          · simp only [Act.put, nzA, nzB, nzC]
            refine wpAnyIn_ready (rs := [4]) (by kernel_rfl) (by simp) (ival 4 (some 26) rfl (by kernel_rfl) (by kernel_rfl) (ex_loadC (W := W3.drew) 71 Tryz.isAgg71 rfl rfl (unhide HN3)) ?_ AllReadyIn.nil)
            simp only [Act.put, nzA, nzB, nzC]
            refine wpAnyIn_ready (rs := [5]) (by kernel_rfl) (by simp) (icall 5 (some 27) rfl (by kernel_rfl) (by kernel_rfl) (by kernel_rfl) (unhide HNX) ?_ AllReadyIn.nil)
            rintro e X ⟨rfl, rfl⟩
            refine ⟨_, rfl, ?_⟩
            simp only [Act.put, nzA, nzB, nzC]
            refine ip 6 (some 3) (pv ((s2.T.next s2.m).map (·.b))) rfl (by kernel_rfl) (by kernel_rfl) (by kernel_rfl) (fun _ _ _ h => h) (by kernel_rfl) (by kernel_rfl) (fun _ => by kernel_rfl) (fun _ => by kernel_rfl) ?_
            simp only [Act.put, nzA, nzB, nzC]
            refine wpAnyIn_done (by kernel_rfl) ?_ _
            try simp only [Act.put, nzA, nzB, nzC]
            gi_wp2
            gi_roundg (s2.left + 1)
            case measure => have := unhide HLF; omega
            case rel => exact ⟨s2, rfl, Nat.le_refl _, HJ4⟩
          · simp only [Act.put, nzA, nzB, nzC]
            refine wpAnyIn_ready (rs := [0]) (by kernel_rfl) (by simp) (ival 0 (some 22) rfl (by kernel_rfl) (by kernel_rfl) (ex_loadC (W := W3.drew) 26 Tryz.isAgg26 rfl rfl (unhide HW3).box) ?_ AllReadyIn.nil)
            simp only [Act.put, nzA, nzB, nzC]
            refine wpAnyIn_ready (rs := [5]) (by kernel_rfl) (by simp) (icall 5 (some 27) rfl (by kernel_rfl) (by kernel_rfl) (by kernel_rfl) (unhide HNX) ?_ AllReadyIn.nil)
            rintro e X ⟨rfl, rfl⟩
            refine ⟨_, rfl, ?_⟩
            simp only [Act.put, nzA, nzB, nzC]
            refine ip 6 (some 3) (pv ((s2.T.next s2.m).map (·.b))) rfl (by kernel_rfl) (by kernel_rfl) (by kernel_rfl) (fun _ _ _ h => h) (by kernel_rfl) (by kernel_rfl) (fun _ => by kernel_rfl) (fun _ => by kernel_rfl) ?_
            simp only [Act.put, nzA, nzB, nzC]
            refine wpAnyIn_done (by kernel_rfl) ?_ _
            try simp only [Act.put, nzA, nzB, nzC]
            gi_wp2
            gi_roundg (s2.left + 1)
            case measure => have := unhide HLF; omega
            case rel => exact ⟨s2, rfl, Nat.le_refl _, HJ4⟩
        · refine ⟨_, rfl, ?_⟩
          simp only [Act.put, nzA, nzB, nzC]
          refine ip 15 (some 21) (.bool false) rfl (by kernel_rfl) (by kernel_rfl) (by kernel_rfl) (fun _ _ _ h => h) (by kernel_rfl) (by kernel_rfl) (fun _ => by kernel_rfl) (fun _ => by kernel_rfl) ?_
          simp only [Act.put, nzA, nzB, nzC]
          refine wpAnyIn_done (by kernel_rfl) ?_ _
          try simp only [Act.put, nzA, nzB, nzC]
          have HJx := hide hJx3
          clear hJx3
          gi_wp2
          go_end0
          exact ⟨⟨_, rfl⟩, .inr (unhide HJx)⟩
