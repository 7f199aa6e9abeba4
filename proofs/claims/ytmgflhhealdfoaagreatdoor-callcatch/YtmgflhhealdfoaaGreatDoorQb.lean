import GoSem.Claim
set_option linter.all false
namespace Go.Proofs.YtmgflhhealdfoaaGreatDoor
section
namespace M
def isHi (c : Nat) : Bool := decide (55296 ≤ c) && decide (c < 56320)
def isLo (c : Nat) : Bool := decide (56320 ≤ c) && decide (c ≤ 57343)
/-- A code point as its bytes. -/
def E (c : Nat) : List Nat :=
  if c < 128 then [c] else if c < 2048 then [192 + c / 64, 128 + c % 64]
  else if c < 65536 then [224 + c / 4096, 128 + c / 64 % 64, 128 + c % 64]
  else [240 + c / 262144, 128 + c / 4096 % 64, 128 + c / 64 % 64, 128 + c % 64]
/-- A code point as its units. -/
def U (c : Nat) : List Nat := if c < 65536 then [c] else [55296 + (c - 65536) / 1024, 56320 + (c - 65536) % 1024]
def okc (c : Nat) : Bool := decide (c < 55296) || (decide (57343 < c) && decide (c ≤ 1114111))
/-- Go's own decoder, over numbers. -/
def goD (l : List Nat) : Nat × Nat :=
  if l.length = 0 then (65533, 0) else
  if l.getD 0 0 < 128 then (l.getD 0 0, 1) else
  if l.getD 0 0 / 32 = 6 ∧ 1 < l.length ∧ l.getD 1 0 / 64 = 2 then
    (if 128 ≤ l.getD 0 0 % 32 * 64 + l.getD 1 0 % 64 then (l.getD 0 0 % 32 * 64 + l.getD 1 0 % 64, 2) else (65533, 1)) else
  if l.getD 0 0 / 16 = 14 ∧ 1 < l.length ∧ l.getD 1 0 / 64 = 2 ∧ 2 < l.length ∧ l.getD 2 0 / 64 = 2 then
    (if 2048 ≤ l.getD 0 0 % 16 * 4096 + l.getD 1 0 % 64 * 64 + l.getD 2 0 % 64 ∧ okc (l.getD 0 0 % 16 * 4096 + l.getD 1 0 % 64 * 64 + l.getD 2 0 % 64) = true then (l.getD 0 0 % 16 * 4096 + l.getD 1 0 % 64 * 64 + l.getD 2 0 % 64, 3) else (65533, 1)) else
  if l.getD 0 0 / 8 = 30 ∧ 1 < l.length ∧ l.getD 1 0 / 64 = 2 ∧ 2 < l.length ∧ l.getD 2 0 / 64 = 2 ∧ 3 < l.length ∧ l.getD 3 0 / 64 = 2 then
    (if 65536 ≤ l.getD 0 0 % 8 * 262144 + l.getD 1 0 % 64 * 4096 + l.getD 2 0 % 64 * 64 + l.getD 3 0 % 64 ∧ okc (l.getD 0 0 % 8 * 262144 + l.getD 1 0 % 64 * 4096 + l.getD 2 0 % 64 * 64 + l.getD 3 0 % 64) = true then (l.getD 0 0 % 8 * 262144 + l.getD 1 0 % 64 * 4096 + l.getD 2 0 % 64 * 64 + l.getD 3 0 % 64, 4) else (65533, 1)) else
  (65533, 1)
def surr (l : List Nat) : Nat × Nat :=
  if l.length < 3 ∨ l.getD 0 0 ≠ 237 ∨ l.getD 1 0 / 32 ≠ 5 ∨ l.getD 2 0 / 64 ≠ 2 then (0, 0) else (55296 + l.getD 1 0 % 32 * 64 + l.getD 2 0 % 64, 3)
def dec (l : List Nat) : Nat × Nat := if (goD l).1 = 65533 ∧ (goD l).2 ≤ 1 then surr l else goD l

theorem okc_iff (c : Nat) : okc c = true ↔ (c < 55296 ∨ (57343 < c ∧ c ≤ 1114111)) := by simp [okc]

set_option maxHeartbeats 1000000 in
theorem goD_E (c : Nat) (r : List Nat) (hc : c ≤ 1114111) (hs : ¬ (55296 ≤ c ∧ c ≤ 57343)) : goD (E c ++ r) = (c, (E c).length) := by
  unfold E
  by_cases h1 : c < 128
  · simp [h1, goD]
  by_cases h2 : c < 2048
  · rw [if_neg h1, if_pos h2]
    simp only [goD, List.getD_cons_zero, List.getD_cons_succ, List.cons_append, List.nil_append, List.length_cons, List.length_nil, okc_iff]
    repeat' split
    all_goals first | (exfalso; omega) | (refine Prod.ext ?_ ?_ <;> dsimp only <;> omega)
  by_cases h3 : c < 65536
  · rw [if_neg h1, if_neg h2, if_pos h3]
    simp only [goD, List.getD_cons_zero, List.getD_cons_succ, List.cons_append, List.nil_append, List.length_cons, List.length_nil, okc_iff]
    repeat' split
    all_goals first | (exfalso; omega) | (refine Prod.ext ?_ ?_ <;> dsimp only <;> omega)
  · rw [if_neg h1, if_neg h2, if_neg h3]
    simp only [goD, List.getD_cons_zero, List.getD_cons_succ, List.cons_append, List.nil_append, List.length_cons, List.length_nil, okc_iff]
    repeat' split
    all_goals first | (exfalso; omega) | (refine Prod.ext ?_ ?_ <;> dsimp only <;> omega)

theorem len1 : ∀ (l : List Nat), 0 < l.length → ∃ a t, l = a :: t
  | a :: t, _ => ⟨a, t, rfl⟩
theorem len2 : ∀ (l : List Nat), 1 < l.length → ∃ a b t, l = a :: b :: t
  | a :: b :: t, _ => ⟨a, b, t, rfl⟩
theorem len3 : ∀ (l : List Nat), 2 < l.length → ∃ a b c t, l = a :: b :: c :: t
  | a :: b :: c :: t, _ => ⟨a, b, c, t, rfl⟩
theorem len4 : ∀ (l : List Nat), 3 < l.length → ∃ a b c d t, l = a :: b :: c :: d :: t
  | a :: b :: c :: d :: t, _ => ⟨a, b, c, d, t, rfl⟩
theorem goD_cases (l : List Nat) (hb : ∀ x ∈ l, x < 256) : ((goD l).1 = 65533 ∧ (goD l).2 ≤ 1) ∨ (∃ b0 t, l = b0 :: t ∧ b0 < 128 ∧ goD l = (b0, 1)) ∨
    (∃ b0 b1 t, l = b0 :: b1 :: t ∧ b0 / 32 = 6 ∧ b1 / 64 = 2 ∧ 128 ≤ b0 % 32 * 64 + b1 % 64 ∧ goD l = (b0 % 32 * 64 + b1 % 64, 2)) ∨
    (∃ b0 b1 b2 t, l = b0 :: b1 :: b2 :: t ∧ b0 / 16 = 14 ∧ b1 / 64 = 2 ∧ b2 / 64 = 2 ∧ 2048 ≤ b0 % 16 * 4096 + b1 % 64 * 64 + b2 % 64 ∧ goD l = (b0 % 16 * 4096 + b1 % 64 * 64 + b2 % 64, 3)) ∨
    (∃ b0 b1 b2 b3 t, l = b0 :: b1 :: b2 :: b3 :: t ∧ b0 / 8 = 30 ∧ b1 / 64 = 2 ∧ b2 / 64 = 2 ∧ b3 / 64 = 2 ∧ 65536 ≤ b0 % 8 * 262144 + b1 % 64 * 4096 + b2 % 64 * 64 + b3 % 64 ∧ b0 % 8 * 262144 + b1 % 64 * 4096 + b2 % 64 * 64 + b3 % 64 ≤ 1114111 ∧ goD l = (b0 % 8 * 262144 + b1 % 64 * 4096 + b2 % 64 * 64 + b3 % 64, 4)) := by
  obtain ⟨v, hv⟩ : ∃ v, goD l = v := ⟨_, rfl⟩
  rw [hv]
  unfold goD at hv
  repeat' split at hv
  all_goals subst hv
  all_goals first | (left; simp; done) | skip
  · rename_i h0 h1
    right; left
    obtain ⟨b0, t, rfl⟩ := len1 l (by omega)
    exact ⟨b0, t, rfl, by simpa using h1, by simp⟩
  · rename_i h0 h1 h2 h3
    right; right; left
    obtain ⟨b0, b1, t, rfl⟩ := len2 l h2.2.1
    simp only [List.getD_cons_zero, List.getD_cons_succ] at h2 h3 ⊢; exact ⟨b0, b1, t, rfl, h2.1, h2.2.2, h3, rfl⟩
  · rename_i h0 h1 h2 h3 h4
    right; right; right; left
    obtain ⟨b0, b1, b2, t, rfl⟩ := len3 l h3.2.2.2.1
    simp only [List.getD_cons_zero, List.getD_cons_succ] at h3 h4 ⊢; exact ⟨b0, b1, b2, t, rfl, h3.1, h3.2.2.1, h3.2.2.2.2, h4.1, rfl⟩
  · rename_i h0 h1 h2 h3 h4 h5
    right; right; right; right
    obtain ⟨b0, b1, b2, b3, t, rfl⟩ := len4 l h4.2.2.2.2.2.1
    simp only [List.getD_cons_zero, List.getD_cons_succ, okc_iff] at h4 h5 ⊢; exact ⟨b0, b1, b2, b3, t, rfl, h4.1, h4.2.2.1, h4.2.2.2.2.1, h4.2.2.2.2.2.2, h5.1, by omega, rfl⟩

theorem goD_inv (l : List Nat) (hb : ∀ x ∈ l, x < 256) (hne : ¬ ((goD l).1 = 65533 ∧ (goD l).2 ≤ 1)) :
    (goD l).1 ≤ 1114111 ∧ l = E (goD l).1 ++ l.drop (goD l).2 ∧ (goD l).2 = (E (goD l).1).length := by
  rcases goD_cases l hb with h | ⟨b0, t, hl, h1, hv⟩ | ⟨b0, b1, t, hl, h1, h2, h3, hv⟩ | ⟨b0, b1, b2, t, hl, h1, h2, h3, h4, hv⟩ | ⟨b0, b1, b2, b3, t, hl, h1, h2, h3, h4, h5, h6, hv⟩
  · exact absurd h hne
  · rw [hv]; subst hl; simp [E, h1]; omega
  · rw [hv]; subst hl
    simp only [E]
    rw [if_neg (by omega), if_pos (by omega)]
    refine ⟨by omega, ?_, by simp⟩
    simp only [List.drop_succ_cons, List.drop_zero, List.cons_append, List.nil_append, List.cons.injEq, and_true]
    omega
  · rw [hv]; subst hl
    simp only [E]
    rw [if_neg (by omega), if_neg (by omega), if_pos (by omega)]
    refine ⟨by omega, ?_, by simp⟩
    simp only [List.drop_succ_cons, List.drop_zero, List.cons_append, List.nil_append, List.cons.injEq, and_true]
    omega
  · rw [hv]; subst hl
    simp only [E]
    rw [if_neg (by omega), if_neg (by omega), if_neg (by omega)]
    refine ⟨by omega, ?_, by simp⟩
    simp only [List.drop_succ_cons, List.drop_zero, List.cons_append, List.nil_append, List.cons.injEq, and_true]
    omega

theorem surr_inv (l : List Nat) (hn : (surr l).2 ≠ 0) :
    (surr l).1 ≤ 1114111 ∧ l = E (surr l).1 ++ l.drop (surr l).2 ∧ (surr l).2 = (E (surr l).1).length := by
  unfold surr at *
  by_cases h : l.length < 3 ∨ l.getD 0 0 ≠ 237 ∨ l.getD 1 0 / 32 ≠ 5 ∨ l.getD 2 0 / 64 ≠ 2
  · rw [if_pos h] at hn; simp at hn
  · rw [if_neg h]
    match l, h with
    | [], h => simp at h
    | [_], h => simp at h
    | [_, _], h => simp at h
    | b0 :: b1 :: b2 :: t, h =>
      simp at h
      obtain ⟨rfl, h1, h2⟩ := h
      simp only [List.getD_cons_zero, List.getD_cons_succ]
      have n1 : ¬ (55296 + b1 % 32 * 64 + b2 % 64 < 128) := by omega
      have n2 : ¬ (55296 + b1 % 32 * 64 + b2 % 64 < 2048) := by omega
      have n3 : 55296 + b1 % 32 * 64 + b2 % 64 < 65536 := by omega
      simp [E, n1, n2, n3]; omega

theorem dec_inv (l : List Nat) (hb : ∀ x ∈ l, x < 256) (hn : (dec l).2 ≠ 0) :
    (dec l).1 ≤ 1114111 ∧ l = E (dec l).1 ++ l.drop (dec l).2 ∧ (dec l).2 = (E (dec l).1).length := by
  unfold dec at *
  split
  · rename_i h; rw [if_pos h] at hn; exact surr_inv l hn
  · rename_i h; exact goD_inv l hb h

/-- The scan of Valid. -/
def vF : Nat → Bool → List Nat → Bool
  | 0, _, l => l.isEmpty
  | f + 1, h, l => if l.isEmpty then true else if (dec l).2 = 0 || (h && isLo (dec l).1) then false else vF f (isHi (dec l).1) (l.drop (dec l).2)

theorem vF_fuel : ∀ (f g : Nat) (h : Bool) (l : List Nat), l.length ≤ f → l.length ≤ g → vF f h l = vF g h l := by
  intro f
  induction f with
  | zero =>
    intro g h l h1 h2
    have : l = [] := List.eq_nil_of_length_eq_zero (by omega)
    subst this
    cases g <;> simp [vF]
  | succ f ih =>
    intro g h l h1 h2
    cases l with
    | nil => cases g <;> simp [vF]
    | cons x t =>
      cases g with
      | zero => simp at h2
      | succ g =>
        simp only [vF]
        split
        · rfl
        · split
          · rfl
          · rename_i hz
            have : (dec (x :: t)).2 ≠ 0 := by intro e; simp [e] at hz
            apply ih <;> (simp only [List.length_drop, List.length_cons] at *; omega)

def valid (h : Bool) (l : List Nat) : Bool := vF l.length h l
theorem valid_step (h : Bool) (l : List Nat) (hne : l ≠ []) : valid h l = if (dec l).2 = 0 || (h && isLo (dec l).1) then false else valid (isHi (dec l).1) (l.drop (dec l).2) := by
  cases l with
  | nil => exact absurd rfl hne
  | cons x t =>
    unfold valid
    simp only [List.length_cons, vF, List.isEmpty_cons, Bool.false_eq_true, if_false]
    split
    · rfl
    · rename_i hz
      have : (dec (x :: t)).2 ≠ 0 := by intro e; simp [e] at hz
      apply vF_fuel <;> (simp only [List.length_drop, List.length_cons]; omega)

def small (cs : List Nat) : Prop := ∀ c ∈ cs, c ≤ 1114111
/-! The reference's reader, and the rows of units -/
def tailN : Nat → List Nat → Nat → Option Nat
  | 0, _, c => some c
  | n + 1, l, c => match l with
    | [] => none
    | b :: t => if b < 128 ∨ 191 < b then none else tailN n t (64 * c + (b - 128))
/-- how many bytes follow, and what the first one gives -/
def head (b : Nat) : Option (Nat × Nat) :=
  if b < 128 then some (0, b) else if 192 ≤ b ∧ b < 224 then some (1, b - 192) else if 224 ≤ b ∧ b < 240 then some (2, b - 224) else if 240 ≤ b ∧ b < 248 then some (3, b - 240) else none
/-- one code point of the reader: the point, and how many bytes it takes -/
def rd1 (l : List Nat) : Option (Nat × Nat) :=
  match l with
  | [] => none
  | b :: t => match head b with
    | none => none
    | some (n, base) => match tailN n t 0 with
      | none => none
      | some c => if 1114111 < c + base * 64 ^ n then none else some (c + base * 64 ^ n, n)
def rdF : Nat → List Nat → Option (List Nat)
  | 0, l => if l.isEmpty then some [] else none
  | f + 1, l => if l.isEmpty then some [] else match rd1 l with
    | none => none
    | some (c, n) => (rdF f (l.drop (1 + n))).map (U c ++ ·)
def rd (l : List Nat) : Option (List Nat) := rdF l.length l
/-- The code points of a row. -/
def row : List Nat → List Nat
  | [] => []
  | [a] => [a]
  | a :: b :: r => if isHi a && isLo b then (65536 + 1024 * (a - 55296) + (b - 56320)) :: row r else a :: row (b :: r)
end M
