import Derived.Test.YtakenhaieblikaaDoorWw
namespace Go.Proofs.YtakenhaieblikaaDoor
namespace M
theorem cmpL_rng : ∀ (l m : List Nat), cmpL l m = -1 ∨ cmpL l m = 0 ∨ cmpL l m = 1
  | [], [] => by simp [cmpL]
  | [], _ :: _ => by simp [cmpL]
  | _ :: _, [] => by simp [cmpL]
  | a :: l, b :: m => by
    have := cmpL_rng l m
    simp only [cmpL]; split
    · simp
    · split
      · simp
      · exact this
theorem cmpL_neg : ∀ (l m : List Nat), cmpL l m = - cmpL m l
  | [], [] => by simp [cmpL]
  | [], _ :: _ => by simp [cmpL]
  | _ :: _, [] => by simp [cmpL]
  | a :: l, b :: m => by
    have := cmpL_neg l m
    simp only [cmpL]
    by_cases h1 : a < b
    · rw [if_pos h1, if_neg (by omega), if_pos h1]
    · by_cases h2 : b < a
      · rw [if_neg h1, if_pos h2, if_pos h2]; rfl
      · rw [if_neg h1, if_neg h2, if_neg h2, if_neg h1]; exact this
theorem cmpL_zero : ∀ (l m : List Nat), cmpL l m = 0 ↔ l = m
  | [], [] => by simp [cmpL]
  | [], _ :: _ => by simp [cmpL]
  | _ :: _, [] => by simp [cmpL]
  | a :: l, b :: m => by
    have := cmpL_zero l m
    simp only [cmpL, List.cons.injEq]
    by_cases h1 : a < b
    · rw [if_pos h1]; constructor
      · intro h; omega
      · rintro ⟨h, _⟩; omega
    · by_cases h2 : b < a
      · rw [if_neg h1, if_pos h2]; constructor
        · intro h; omega
        · rintro ⟨h, _⟩; omega
      · rw [if_neg h1, if_neg h2, this]; constructor
        · intro h; exact ⟨by omega, h⟩
        · exact And.right
theorem cmpL_le : ∀ (a b c : List Nat), cmpL a b ≤ 0 → cmpL b c ≤ 0 → cmpL a c ≤ 0
  | [], _, [] => by simp [cmpL]
  | [], _, _ :: _ => by simp [cmpL]
  | _ :: _, [], _ => by simp [cmpL]
  | _ :: _, _ :: _, [] => by simp [cmpL]
  | x :: a, y :: b, z :: c => by
    have := cmpL_le a b c
    simp only [cmpL]
    intro h1 h2
    by_cases a1 : x < y
    · by_cases b1 : y < z
      · rw [if_pos (by omega)]; omega
      · rw [if_neg b1] at h2
        by_cases b2 : z < y
        · rw [if_pos b2] at h2; omega
        · rw [if_pos (by omega)]; omega
    · rw [if_neg a1] at h1
      by_cases a2 : y < x
      · rw [if_pos a2] at h1; omega
      · rw [if_neg a2] at h1
        by_cases b1 : y < z
        · rw [if_pos (by omega)]; omega
        · rw [if_neg b1] at h2
          by_cases b2 : z < y
          · rw [if_pos b2] at h2; omega
          · rw [if_neg b2] at h2
            rw [if_neg (by omega), if_neg (by omega)]
            exact this h1 h2
theorem cmpL_ge (a b c : List Nat) (h1 : 0 ≤ cmpL a b) (h2 : 0 ≤ cmpL b c) : 0 ≤ cmpL a c := by
  have e1 := cmpL_neg a b; have e2 := cmpL_neg b c; have e3 := cmpL_neg a c
  have := cmpL_le c b a (by omega) (by omega)
  omega
theorem cmpL_app : ∀ (l m : List Nat), cmpL l (l ++ m) ≤ 0 ∧ (cmpL l (l ++ m) < 0 ↔ m ≠ [])
  | [], [] => by simp [cmpL]
  | [], _ :: _ => by simp [cmpL]
  | a :: l, m => by
    have := cmpL_app l m
    simpa [cmpL] using this
end M
theorem un_ok {a : ByteArray} (h : vS a = true) : nums a = M.ofL (unS a) := by
  unfold unS; rw [h, if_pos rfl]
  rcases M.valid_ref (nums a) (nums_lt a) with ⟨_, u, h2, h3, _⟩ | ⟨h1, _⟩
  · unfold rdL; rw [h2]; exact h3.symm
  · unfold vS at h; rw [h] at h1; cases h1
theorem un_inj {a b : ByteArray} (ha : vS a = true) (hb : vS b = true) (h : unS a = unS b) : a = b :=
  nums_inj (by rw [un_ok ha, un_ok hb, h])
theorem of_un {t : ByteArray} {l : List Nat} (hl : ∀ x ∈ l, x < 65536) (h : nums t = M.ofL l) : vS t = true ∧ unS t = l := by
  obtain ⟨p1, p2, p3⟩ := M.row_props l.length l (Nat.le_refl _) hl
  have hv : vS t = true := by
    unfold vS; rw [h]
    exact M.valid_of (M.row l) false p1 (p3 false (fun _ _ _ => rfl))
  refine ⟨hv, ?_⟩
  unfold unS; rw [hv, if_pos rfl]
  unfold rdL; rw [h]; unfold M.ofL
  rw [M.rd_flat _ p1, p2]; rfl
theorem un_nil {b : ByteArray} (h : vS b = true) : unS b = [] ↔ b.toList = [] := by
  have e := un_ok h
  constructor
  · intro h2
    rw [h2] at e
    rw [Lib.toList_data]
    have e' : nums b = [] := e
    unfold nums at e'
    exact List.map_eq_nil_iff.1 e'
  · intro h2
    rw [Lib.toList_data] at h2
    have h3 : nums b = [] := by unfold nums; rw [h2]; rfl
    have := unS_len b
    rw [← nums_len, h3] at this
    exact List.eq_nil_of_length_eq_zero (by simpa using this)
end Go.Proofs.YtakenhaieblikaaDoor
