/-
  For any program: a step of the machine never takes a draw back, so behind a call that returns the world has drawn no less; and a world that a call has left as it was below is the old one, some draws on, with blocks behind.
-/
import Derived.Calls
import Derived.Below
import Derived.Sort.Grow
import Derived.Test.YtkpfikeggleenaaGreatDoorWa
namespace Go.Proofs.YtkpfikeggleenaaGreatDoor
/-- The world that a result leaves. -/
def rW {α : Type} : Result α → World
  | .ok _ w => w
  | .halt _ w => w
theorem ask_mono {α : Type} (q : Ask α) : ∀ w : World, w.drawn ≤ (w.ask q).2.drawn := by
  induction q with
  | done a => intro w; simp [World.ask]
  | ask what range k ih =>
    intro w
    unfold World.ask
    dsimp only
    split
    · exact ih 0 w
    · have := ih ((Question.extern what range).cut (w.tape w.drawn (Question.extern what range))) { w with drawn := w.drawn + 1 }
      dsimp only at this
      omega
theorem sys_mono (w : World) (c : Sys) : w.drawn ≤ (w.sys c).2.drawn := by
  have := ask_mono (Kernel.perform c w.os) w
  unfold World.sys
  split
  · exact Nat.le_refl _
  · rename_i h
    rw [h] at this
    exact this
theorem far_mono {p : Program} {w w' : World} {a : Addr} {v : Value} {b : Bool} {t : List Addr} (h : w.farStore p a v b = .ok (w', t)) : w'.drawn = w.drawn := by
  unfold World.farStore at h
  split at h
  · split at h
    · rename_i r hr
      cases h
      unfold World.viewStore at hr
      simp only [bind, Except.bind, pure, Except.pure, throwThe, MonadExceptOf.throw, MonadExcept.throw] at hr
      repeat' split at hr
      all_goals first | (cases hr; rfl) | cases hr
    · cases h
  · cases h
theorem run_mono {α : Type} (p : Program) (s : Sem α) : ∀ w : World, w.drawn ≤ (rW (s.run p w)).drawn := by
  induction s with
  | pure a => intro w; simp [Sem.run, rW]
  | load m a k ih =>
    intro w
    unfold Sem.run
    split
    · exact ih _ w
    · split
      · exact ih _ w
      · exact Nat.le_refl _
  | store m a v k ih =>
    intro w
    cases v
    all_goals first
      | exact Nat.le_refl _
      | (unfold Sem.run
         split
         · split
           · exact Nat.le_refl _
           · exact ih (w.setCell a _)
         · split
           · rename_i h
             rw [← far_mono h]
             exact ih _
           · exact Nat.le_refl _)
  | new o k ih => intro w; exact ih _ { w with heap := w.heap.push o }
  | shape r k ih => intro w; exact ih _ w
  | freeze a n k ih =>
    intro w
    have e : (w.freeze a n).drawn = w.drawn := by
      unfold World.freeze
      split <;> rfl
    have := ih (w.freeze a n)
    rw [e] at this
    exact this
  | frozen a k ih => intro w; exact ih _ w
  | getObj r k ih =>
    intro w
    unfold Sem.run
    split
    · exact Nat.le_refl _
    · exact ih _ w
    · exact Nat.le_refl _
  | setObj r o k ih =>
    intro w
    unfold Sem.run
    split
    · exact Nat.le_refl _
    · exact ih { w with heap := w.heap.setIfInBounds r o }
    · exact Nat.le_refl _
  | choose q k ih =>
    intro w
    unfold Sem.run
    split
    · exact ih _ w
    · have := ih (q.cut (w.tape w.drawn q)) { w with drawn := w.drawn + 1 }
      dsimp only at this
      omega
  | sys c k ih =>
    intro w
    unfold Sem.run
    exact Nat.le_trans (sys_mono w c) (ih _ _)
  | program k ih => intro w; exact ih p w
  | mark m k ih => intro w; exact ih w
  | halt h => intro w; exact Nat.le_refl _
theorem runT_fst {α : Type} (p : Program) (s : Sem α) : ∀ (w : World) (es : Array Event), (s.runT p w es).1 = s.run p w := by
  induction s with
  | pure a => intro w es; rfl
  | load m a k ih =>
    intro w es
    unfold Sem.runT Sem.run
    split
    · exact ih _ _ _
    · split
      · exact ih _ _ _
      · rfl
  | store m a v k ih =>
    intro w es
    cases v
    all_goals first
      | rfl
      | (unfold Sem.runT Sem.run
         split
         · split
           · rfl
           · exact ih _ _
         · split
           · exact ih _ _
           · rfl)
  | new o k ih => intro w es; exact ih _ _ _
  | shape r k ih => intro w es; exact ih _ _ _
  | freeze a n k ih => intro w es; exact ih _ _
  | frozen a k ih => intro w es; exact ih _ _ _
  | getObj r k ih =>
    intro w es
    unfold Sem.runT Sem.run
    split
    · rfl
    · exact ih _ _ _
    · rfl
  | setObj r o k ih =>
    intro w es
    unfold Sem.runT Sem.run
    split
    · rfl
    · exact ih _ _
    · rfl
  | choose q k ih =>
    intro w es
    unfold Sem.runT Sem.run
    split
    · exact ih _ _ _
    · exact ih _ _ _
  | sys c k ih => intro w es; exact ih _ _ _
  | program k ih => intro w es; exact ih p _ _
  | mark m k ih => intro w es; exact ih _ _
  | halt h => intro w es; rfl
theorem runT_mono {α : Type} (p : Program) (s : Sem α) (w : World) (es : Array Event) : w.drawn ≤ (rW (s.runT p w es).1).drawn := by
  rw [runT_fst]
  exact run_mono p s w
/-- A step of a goroutine that goes on has drawn no less. -/
def gM (d : Nat) : GStep → Prop
  | .go _ w _ => d ≤ w.drawn
  | .comm _ _ _ _ w _ => d ≤ w.drawn
  | .spawn _ _ w _ => d ≤ w.drawn
  | .count _ w _ => d ≤ w.drawn
  | .timer _ _ w _ => d ≤ w.drawn
  | .alone _ _ w _ => d ≤ w.drawn
  | .newcoro _ _ _ w _ => d ≤ w.drawn
  | .coroswitch _ _ _ w _ => d ≤ w.drawn
  | .collect _ w _ => d ≤ w.drawn
  | .watch _ w _ => d ≤ w.drawn
  | .ended _ _ _ => True
theorem gM_after {d : Nat} {es : Array Event} {s : GStep} (h : gM d s) : gM d (s.after es) := by
  cases s <;> exact h
theorem of_ok {α : Type} {p : Program} {s : Sem α} {w w' : World} {a : α} (h : s.run p w = .ok a w') : w.drawn ≤ w'.drawn := by
  have := run_mono p s w
  rw [h] at this
  exact this
theorem of_halt {α : Type} {p : Program} {s : Sem α} {w w' : World} {a : Halt} (h : s.run p w = .halt a w') : w.drawn ≤ w'.drawn := by
  have := run_mono p s w
  rw [h] at this
  exact this
theorem of_okT {α : Type} {p : Program} {s : Sem α} {w w' : World} {a : α} {es es' : Array Event} (h : s.runT p w es = (.ok a w', es')) : w.drawn ≤ w'.drawn := by
  have := runT_mono p s w es
  rw [h] at this
  exact this
theorem of_haltT {α : Type} {p : Program} {s : Sem α} {w w' : World} {a : Halt} {es es' : Array Event} (h : s.runT p w es = (.halt a w', es')) : w.drawn ≤ w'.drawn := by
  have := runT_mono p s w es
  rw [h] at this
  exact this
theorem gM_endWith (d : Nat) (w : World) (fd : Nat) (t : ByteArray) (o : Outcome) : gM d (endWith w fd t o) := by
  unfold endWith
  dsimp only
  repeat' split
  all_goals exact trivial
theorem gM_dieOf (d : Nat) (fr : Frame) (ahead : List ByteArray) (m : String) (b : Bool) (w : World) (h : d ≤ w.drawn) : gM d (dieOf fr ahead m b w) := h
theorem gM_endThrow (d : Nat) (fr : Frame) (m : String) (w : World) (h : d ≤ w.drawn) : gM d (endThrow fr m w) := h
theorem gM_endPrinting (d : Nat) (p : Program) (fr : Frame) (v : Value) (w : World) (h : d ≤ w.drawn) : gM d (endPrinting p fr v w) := by
  unfold endPrinting
  dsimp only
  split
  · exact h
  · exact trivial
theorem gM_endFatal (d : Nat) (p : Program) (fr : Frame) (cs : List Frame) (dy : Option Dying) (m : String) (w : World) (h : d ≤ w.drawn) : gM d (endFatal p fr cs dy m w) := by
  unfold endFatal
  dsimp only
  split
  · exact Nat.le_trans h (of_ok (by assumption))
  · exact trivial
  · exact trivial
theorem gM_writeOn (d : Nat) (p : Program) (fr : Frame) (dy : Dying) (f : Fatal) (w : World) (h : d ≤ w.drawn) : gM d (writeOn p fr dy f w) := by
  unfold writeOn
  dsimp only
  split
  · exact trivial
  · split
    · exact Nat.le_trans h (of_okT (by assumption))
    · exact Nat.le_trans h (of_haltT (by assumption))
    · exact trivial
    · exact trivial
theorem gM_die (d : Nat) (p : Program) (fr : Frame) (dy : Dying) (w : World) (h : d ≤ w.drawn) : gM d (die p fr dy w) := by
  unfold die
  split
  · exact gM_writeOn _ _ _ _ _ _ h
  · dsimp only
    split
    · split
      · exact h
      · exact gM_endWith _ _ _ _ _
    · split
      · exact h
      · split
        · exact Nat.le_trans h (of_ok (by assumption))
        · exact trivial
      · refine gM_after ?_
        rw [runT_fst]
        split
        · exact Nat.le_trans h (of_ok (by assumption))
        · exact Nat.le_trans h (of_ok (by assumption))
        · exact trivial
        · exact gM_endPrinting _ _ _ _ _ (Nat.le_trans h (of_halt (by assumption)))
        · exact trivial
      · exact trivial
theorem gM_early (d : Nat) (p : Program) (fr : Frame) (cs : List Frame) (dy : Option Dying) (g : Nat) (w : World) (h : d ≤ w.drawn) : gM d (early p fr cs dy g w) := by
  unfold early
  dsimp only
  repeat' split
  all_goals first | exact trivial | exact h | exact Nat.le_trans h (of_ok (by assumption)) | (have hq := of_ok ‹Sem.run p (choose (Question.early g)) w = Result.ok _ _›; exact Nat.le_trans h hq)
theorem gM_doReturn (d : Nat) (p : Program) (mn : Bool) (fr : Frame) (cs : List Frame) (dy : Option Dying) (v : Value) (w : World) (h : d ≤ w.drawn) : gM d (doReturn p mn fr cs dy v w) := by
  unfold doReturn
  repeat' split
  all_goals first | exact trivial | exact h
theorem gM_callDeferred (d : Nat) (p : Program) (fr : Frame) (cs : List Frame) (dy : Option Dying) (f : Deferred) (w : World) (h : d ≤ w.drawn) : gM d (callDeferred p fr cs dy f w) := by
  have key : ∀ (b : Bool) (x y : GStep), gM d x → gM d y → gM d (if b = true then x else y) := by
    intro b x y hx hy
    cases b
    · exact hy
    · exact hx
  unfold callDeferred
  refine key _ _ _ trivial ?_
  dsimp only
  refine gM_after ?_
  simp only [runT_fst]
  split
  all_goals try split
  all_goals first
    | exact trivial
    | exact Nat.le_trans h (of_ok (by assumption))
    | exact Nat.le_trans h (of_halt (by assumption))
    | exact gM_endFatal _ _ _ _ _ _ _ (Nat.le_trans h (of_halt (by assumption)))
    | exact gM_endThrow _ _ _ _ (Nat.le_trans h (of_halt (by assumption)))
theorem gM_unwind (d : Nat) (p : Program) (mn : Bool) (fr : Frame) (cs : List Frame) (dy : Option Dying) (w : World) (h : d ≤ w.drawn) : gM d (unwind p mn fr cs dy w) := by
  unfold unwind
  split
  · dsimp only
    refine gM_after ?_
    simp only [runT_fst]
    split
    · exact Nat.le_trans h (of_ok (by assumption))
    · exact trivial
  · exact gM_callDeferred _ _ _ _ _ _ _ h
  · split
    · exact trivial
    · split
      · exact trivial
      · split
        · exact h
        · split
          · split
            · exact h
            · split
              · exact Nat.le_trans h (of_ok (by assumption))
              · exact trivial
              · exact trivial
          · split
            · exact gM_endPrinting _ _ _ _ _ h
            · exact trivial
    · split
      · exact gM_doReturn _ _ _ _ _ _ _ _ h
      · dsimp only
        refine gM_after ?_
        simp only [runT_fst]
        split
        · exact gM_doReturn _ _ _ _ _ _ _ _ (Nat.le_trans h (of_ok (by assumption)))
        · exact trivial
        · exact trivial
theorem gM_apply (d : Nat) (p : Program) (l : Bool) (fr : Frame) (cs : List Frame) (dy : Option Dying) (s : Sem Next) (w : World) (h : d ≤ w.drawn) : gM d (stepG.apply p l fr cs dy s w) := by
  have e : (if l = true then Sem.runT p s w #[] else (Sem.run p s w, #[])).fst = Sem.run p s w := by
    split
    · exact runT_fst p s w #[]
    · rfl
  unfold stepG.apply
  dsimp only
  refine gM_after ?_
  rw [e]
  split
  case h_1 => exact Nat.le_trans h (of_ok (by assumption))
  all_goals try split
  all_goals try split
  all_goals first
    | exact trivial
    | exact Nat.le_trans h (of_ok (by assumption))
    | exact Nat.le_trans h (of_halt (by assumption))
    | exact gM_endFatal _ _ _ _ _ _ _ (Nat.le_trans h (of_halt (by assumption)))
    | exact gM_endThrow _ _ _ _ (Nat.le_trans h (of_ok (by assumption)))
    | exact gM_endThrow _ _ _ _ (Nat.le_trans h (of_halt (by assumption)))
    | exact gM_early _ _ _ _ _ _ _ (Nat.le_trans h (of_halt (by assumption)))
theorem gM_oper (d : Nat) (p : Program) (l : Bool) (fr : Frame) (cs : List Frame) (dy : Option Dying) (w : World) (h : d ≤ w.drawn) : gM d (stepG.oper p l fr cs dy w) := by
  unfold stepG.oper
  split
  · exact trivial
  · split
    · exact gM_apply _ _ _ _ _ _ _ _ h
    · exact gM_apply _ _ _ _ _ _ _ _ h
theorem gM_exec (d : Nat) (p : Program) (mn l : Bool) (fr : Frame) (cs : List Frame) (dy : Option Dying) (w : World) (h : d ≤ w.drawn) : gM d (stepG.exec p mn l fr cs dy w) := by
  unfold stepG.exec
  dsimp only
  simp only [runT_fst]
  split
  all_goals try unfold Option.elim
  all_goals repeat' (first
    | exact h
    | exact trivial
    | exact gM_oper _ _ _ _ _ _ _ h
    | exact gM_apply _ _ _ _ _ _ _ _ h
    | exact gM_apply _ _ _ _ _ _ _ _ (Nat.le_trans h (of_ok (by assumption)))
    | exact gM_doReturn _ _ _ _ _ _ _ _ (Nat.le_trans h (of_ok (by assumption)))
    | exact Nat.le_trans h (of_ok (by assumption))
    | exact Nat.le_trans h (of_halt (by assumption))
    | split
    | refine gM_after ?_)
theorem gM_stepG (d : Nat) (p : Program) (mn : Bool) (g : Goroutine) (w : World) (l : Bool) (h : d ≤ w.drawn) : gM d (stepG p mn g w l) := by
  unfold stepG
  dsimp only
  split
  · exact gM_die _ _ _ _ _ h
  · exact gM_exec _ _ _ _ _ _ _ _ h
  · exact gM_unwind _ _ _ _ _ _ _ h
/-- A step of the machine that goes on has drawn no less. -/
def sM (d : Nat) : Stepped → Prop
  | .next m => d ≤ m.world.drawn
  | _ => True
theorem sM_look (d : Nat) (p : Program) (gs : Array Goroutine) (rest : Rest) (w : World) (h : d ≤ w.drawn) : sM d (look p gs rest w) := by
  unfold look
  dsimp only
  split
  · split
    · exact trivial
    · split
      · exact trivial
      · split
        · rename_i hq
          have h1 := Nat.le_trans h (of_ok hq)
          exact h1
        · exact trivial
        · exact trivial
  · exact trivial
theorem waiting_mono {rest : Rest} {cases : Array CommCase} {w w' : World} (h : waitingAt rest cases w = some w') : w'.drawn = w.drawn := by
  unfold waitingAt at h
  split at h
  · split at h
    · cases h
      rfl
    · cases h
  · cases h
    rfl
theorem sM_comm (d : Nat) (p : Program) (rest : Rest) (gs : Array Goroutine) (i : Nat) (g : Goroutine) (cases : Array CommCase) (b : Bool) (sh : CommShape) (w : World) (h : d ≤ w.drawn) : sM d (communicate p rest gs i g cases b sh w).1 := by
  unfold communicate
  dsimp only
  split
  · exact trivial
  · split
    · split
      · split
        · rename_i hq
          have h1 := waiting_mono hq
          show d ≤ World.drawn _
          rw [h1]
          exact h
        · exact trivial
      · exact h
    · split
      · exact trivial
      · rename_i hq
        have h1 := Nat.le_trans h (of_ok hq)
        clear hq h
        split
        · split
          · rename_i hq
            have h2 := Nat.le_trans h1 (of_halt hq)
            exact h2
          · exact trivial
        · exact h1
        · exact h1
        · split
          · exact h1
          · split
            · rename_i hq
              have h2 := Nat.le_trans h1 (of_ok hq)
              exact h2
            · exact trivial
        · exact h1
        · exact h1
        · exact trivial
theorem drain_mono (w : World) (c : Nat) : (drain w c).2.drawn = w.drawn := by
  unfold drain
  split <;> rfl
theorem retime_mono (m : Machine) (k : Nat) (t : Timer) (a b : Nat) : (retime m k t a b).2.world.drawn = m.world.drawn := by
  unfold retime
  dsimp only
  split
  · exact drain_mono _ _
  · rfl
theorem named_mono {m m' : Machine} {var : Addr} {f : Nat → Timer → Value × Machine} {v : Value} {d : Nat} (hf : ∀ k t, (f k t).2.world.drawn = d) (h : timerOp.named m var f = .ok (v, m')) : m'.world.drawn = d := by
  unfold timerOp.named at h
  split at h
  · rename_i k _
    have := hf k (m.rest.timers.getD k default)
    rw [Except.ok.inj h] at this
    exact this
  · cases h
theorem opened_mono {m m' : Machine} {var : Addr} (h : timerOp.opened m var = some m') : m'.world.drawn = m.world.drawn := by
  unfold timerOp.opened at h
  split at h
  · split at h
    · cases h
      rfl
    · cases h
  · cases h
    rfl
theorem timer_mono {m m' : Machine} {op : TimerOp} {v : Value} (h : timerOp m op = .ok (v, m')) : m'.world.drawn = m.world.drawn := by
  unfold timerOp at h
  split at h
  · split at h
    · cases h
      rfl
    · split at h
      · split at h
        · cases h
        · cases h
          rfl
      · cases h
  · exact named_mono (fun k t => retime_mono _ _ _ _ _) h
  · split at h
    · rename_i hq
      exact named_mono (fun k t => (retime_mono _ _ _ _ _).trans (opened_mono hq)) h
    · cases h
  · cases h
    rfl
theorem sM_serve (d : Nat) (p : Program) (m : Machine) (k : Nat) (h : d ≤ m.world.drawn) : sM d (serve p m k) := by
  unfold serve
  dsimp only
  split
  · exact trivial
  · exact h
  · split
    · exact trivial
    · exact h
theorem sM_runT (d : Nat) (p : Program) (m : Machine) (i : Nat) (l : Bool) (h : d ≤ m.world.drawn) : sM d (runT p m i l).1 := by
  unfold runT
  dsimp only
  generalize m.gs.swapAt! i _ = q
  have hg := gM_stepG d p (i == 0) q.1 m.world l h
  generalize stepG p (i == 0) q.1 m.world l = st at *
  cases st with
  | go g w es => exact hg
  | comm g cases blocking shape w es => exact sM_comm _ _ _ _ _ _ _ _ _ _ hg
  | spawn g c w es => exact hg
  | count g w es =>
    dsimp only
    split
    · exact trivial
    · exact hg
  | timer g op w es =>
    dsimp only
    split
    · rename_i hq
      have := timer_mono hq
      show d ≤ World.drawn _
      rw [this]
      exact hg
    · exact hg
    · exact trivial
    · exact trivial
  | alone g on w es => exact hg
  | newcoro g c e w es => exact hg
  | coroswitch g c x w es =>
    dsimp only
    split
    · exact hg
    · exact hg
    · exact trivial
  | collect g w es => exact sM_look _ _ _ _ _ hg
  | watch g w es => exact hg
  | ended o w es => exact trivial
/-- What the machine is asked to do next has drawn no less. -/
def mM (d : Nat) : Move → Prop
  | .goroutine m _ => d ≤ m.world.drawn
  | .machine s _ => sM d s
theorem mM_askOn (d : Nat) (p : Program) (m : Machine) (h : d ≤ m.world.drawn) : mM d (askOn p m) := by
  unfold askOn
  dsimp only
  split
  · exact trivial
  · rename_i hq
    have h1 := Nat.le_trans h (of_ok hq)
    clear hq
    split
    · exact sM_serve _ _ _ _ h1
    · split
      · split
        · exact h1
        · split
          · exact h1
          · split <;> exact trivial
      · split
        · have h2 := h1
          split
          · exact trivial
          · rename_i hq
            have hq2 := of_ok hq
            have h3 := Nat.le_trans h2 hq2
            clear hq2
            clear hq
            split
            · exact h3
            · split
              · exact trivial
              · rename_i hq
                have h4 := Nat.le_trans h3 (of_ok hq)
                exact h4
        · split
          · exact trivial
          · rename_i hq
            have h2 := Nat.le_trans h1 (of_ok hq)
            clear hq
            split
            · exact trivial
            · rename_i hq
              have hq2 := of_ok hq
              have h3 := Nat.le_trans h2 hq2
              clear hq2
              clear hq
              split
              · exact h3
              · split
                · exact trivial
                · rename_i hq
                  have h4 := Nat.le_trans h3 (of_ok hq)
                  exact h4
          · rename_i hq
            have h2 := Nat.le_trans h1 (of_ok hq)
            exact h2
          · rename_i hq
            have h2 := Nat.le_trans h1 (of_ok hq)
            clear hq
            split
            · exact trivial
            · rename_i hq
              have hq2 := of_ok hq
              have h3 := Nat.le_trans h2 hq2
              clear hq2
              clear hq
              split
              · exact h3
              · split
                · exact trivial
                · rename_i hq
                  have h4 := Nat.le_trans h3 (of_ok hq)
                  exact h4
theorem mM_ask (d : Nat) (p : Program) (m : Machine) (h : d ≤ m.world.drawn) : mM d (ask p m) := by
  unfold ask
  split
  · split
    · exact trivial
    · rename_i hq
      have h1 := sM_look d p m.gs m.rest _ (Nat.le_trans h (of_ok hq))
      split
      · rename_i hl
        rw [hl] at h1
        exact mM_askOn _ _ _ h1
      · exact h1
    · rename_i hq
      have h1 := Nat.le_trans h (of_ok hq)
      exact mM_askOn d p _ h1
  · exact mM_askOn _ _ _ h
theorem mM_move (d : Nat) (p : Program) (m : Machine) (h : d ≤ m.world.drawn) : mM d (move p m) := by
  unfold move
  split
  · split
    · exact h
    · exact trivial
  · split
    · split
      · exact h
      · exact mM_ask d p _ h
    · exact mM_ask _ _ _ h
theorem sM_step (d : Nat) (p : Program) (m : Machine) (h : d ≤ m.world.drawn) : sM d (step p m) := by
  unfold step stepT
  have hm := mM_move d p m h
  generalize move p m = mv at *
  cases mv with
  | goroutine m' i => exact sM_runT _ _ _ _ _ hm
  | machine s ops => exact hm
theorem runN_mono (p : Program) : ∀ (n : Nat) (m m' : Machine), runN p n m = .next m' → m.world.drawn ≤ m'.world.drawn := by
  intro n
  induction n with
  | zero =>
    intro m m' h
    cases h
    exact Nat.le_refl _
  | succ n ih =>
    intro m m' h
    unfold runN at h
    have h1 := sM_step m.world.drawn p m (Nat.le_refl _)
    generalize step p m = st at *
    cases st with
    | next m1 => exact Nat.le_trans h1 (ih m1 m' h)
    | ended o w => cases h
theorem steps_mono {P : Program} {m m' : Machine} (h : Steps P m m') : m.world.drawn ≤ m'.world.drawn := by
  obtain ⟨n, hn⟩ := h
  exact runN_mono P n m m' hn
theorem calls_drawn {P : Program} {f : FuncId} {args : Array Value} {w : World} {R : Ending → World → Prop} (h : Calls P f args w R) : Calls P f args w fun e w' => R e w' ∧ (e = .outgrown ∨ w.drawn ≤ w'.drawn) := by
  intro cs
  obtain ⟨e, w', fr, hR, hc, h1, h2⟩ := h cs
  refine ⟨e, w', fr, ⟨hR, ?_⟩, hc, h1, h2⟩
  cases e with
  | returned v => exact .inr (steps_mono hc)
  | panicked c => exact .inr (steps_mono hc)
  | outgrown => exact .inl rfl
/-- The world is the old one, some draws on, with blocks behind. -/
theorem grows_of {w w' : World} (hb : Go.RowKit.Below w.heap.size w w') (hd : w.drawn ≤ w'.drawn) : ∃ q os', w' = Go.Sort.grow (w.drewN q) os' := by
  refine ⟨w'.drawn - w.drawn, w'.heap.extract w.heap.size w'.heap.size, ?_⟩
  have hh : w'.heap = w.heap ++ w'.heap.extract w.heap.size w'.heap.size := by
    apply Array.ext
    · have := hb.size
      simp
      omega
    · intro k h1 h2
      rcases Nat.lt_or_ge k w.heap.size with hk | hk
      · have := hb.block k hk
        rw [Array.getElem?_eq_getElem h1, Array.getElem?_eq_getElem hk] at this
        rw [Array.getElem_append_left hk]
        exact Option.some.inj this
      · rw [Array.getElem_append_right hk]
        simp
        congr 1
        omega
  have e1 := hb.os
  have e2 := hb.tape
  have e3 := hb.output
  cases w
  cases w'
  unfold Go.Sort.grow World.drewN
  dsimp only at *
  rw [← hh, e1, e2, e3]
  congr 1
  omega
theorem calls_grows {P : Program} {f : FuncId} {args : Array Value} {w : World} {v : Value} (h : Calls P f args w fun e w' => e = .returned v ∧ Go.RowKit.Below w.heap.size w w') : Calls P f args w fun e w' => e = .returned v ∧ ∃ q os', w' = Go.Sort.grow (w.drewN q) os' :=
  (calls_drawn h).mono fun e w' ⟨⟨he, hb⟩, hd⟩ => by
    subst he
    rcases hd with hd | hd
    · cases hd
    · exact ⟨rfl, grows_of hb hd⟩
end Go.Proofs.YtkpfikeggleenaaGreatDoor
