import Derived.Test.YtcflglloopgieaaIo
namespace Go.Proofs.Ytcflglloopgieaa
open Go Go.Proofs Go.Maps Go.RowKit FM
set_option linter.unusedSimpArgs false
set_option linter.unusedVariables false
set_option maxHeartbeats 1000000
theorem sliceU (A : Option Addr) (n cap p : Nat) (hp : p ≤ n) (hn : n ≤ cap) (hA : n ≠ 0 → ∃ b off, A = some ⟨b, off, none⟩) (w : World) : ∃ A' : Option Addr, (∀ b off, A = some ⟨b, off, none⟩ → n - p ≠ 0 → A' = some ⟨b, off + p * 20, none⟩) ∧ (Instr.sliceAt 46 (.slice A n cap) (some (.int .i64 (p : Nat))) none none).run Try.prog w = .ok (.slice A' (n - p) (cap - p)) w := by
  by_cases h0 : p = 0
  · subst h0
    refine ⟨A, fun b off h _ => by simpa using h, ?_⟩
    rw [run_sliceAt_slice (h := by kernel_rfl), run_slice_l (ht := by kernel_rfl) (h0 := by omega) (h1 := by omega)]
    have e : (sizeOf (Try.prog.elem 46)).run Try.prog w = .ok 20 w := by kernel_rfl
    rw [e]
    cases A <;> simp [sliced, Addr.add, Result.andThen]
  · obtain ⟨b, off, rfl⟩ := hA (by omega)
    refine ⟨if cap = p then some ⟨b, off, none⟩ else some ⟨b, off + p * 20, none⟩, fun b' off' h h2 => ?_, ?_⟩
    · rw [if_neg (by omega)]
      simp only [Option.some.injEq, Addr.mk.injEq] at h ⊢
      obtain ⟨rfl, rfl, -⟩ := h
      exact ⟨rfl, rfl, trivial⟩
    rw [run_sliceAt_slice (h := by kernel_rfl), run_slice_l (ht := by kernel_rfl) (h0 := by omega) (h1 := by omega)]
    have e : (sizeOf (Try.prog.elem 46)).run Try.prog w = .ok 20 w := by kernel_rfl
    rw [e]
    by_cases h1 : cap = p
    · simp [sliced, Addr.add, Result.andThen, h0, h1]
    · have h2 : ¬ p * 20 = 0 := by omega
      simp [sliced, Addr.add, Result.andThen, h0, h1, h2]
theorem ex_sliceU {o : Oper} {a : Act} {w : World} {x ix : Operand} {v u : Value} {p : Nat} (ho : o.op = .slice 46 x (some ix) none none) (hx : a.eval x = v) (hix : a.eval ix = .int .i64 (p : Nat)) (h : (Instr.sliceAt 46 v (some (.int .i64 (p : Nat))) none none).run Try.prog w = .ok u w) : (execOp a.eval o).run Try.prog w = .ok (.value u) w := by
  unfold execOp
  simp only [ho, hx, hix, Option.map_some, Option.map_none]
  simp [h]
theorem reads_drop {X : World} {A A' : Option Addr} {l : List PR} {n : Nat} (h : ReadsP X A l) (hA : ∀ b off, A = some ⟨b, off, none⟩ → l.length - n ≠ 0 → A' = some ⟨b, off + n * 20, none⟩) : ReadsP X A' (l.drop n) := fun j p hp => by
  rw [List.getElem?_drop] at hp
  obtain ⟨h1, b, off, h2, h3, h4⟩ := h (n + j) p hp
  have hl := (List.getElem?_eq_some_iff.1 hp).1
  refine ⟨h1, b, off + n * 20, hA b off h2 (by omega), h3, ?_⟩
  rw [show off + n * 20 + j * 20 = off + (n + j) * 20 by omega]
  exact h4
end Go.Proofs.Ytcflglloopgieaa
