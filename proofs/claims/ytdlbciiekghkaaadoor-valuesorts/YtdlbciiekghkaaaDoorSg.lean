import Derived.Lib.SlKept
namespace Go.Proofs.YtdlbciiekghkaaaDoor
open Go.Lib
/-- An order by a comparison. -/
structure Cmp {α : Type} (c : α → α → Int) : Prop where
  neg : ∀ a b, c a b = - c b a
  le : ∀ a b d, c a b ≤ 0 → c b d ≤ 0 → c a d ≤ 0
variable {α : Type} {c : α → α → Int}
theorem Cmp.refl (h : Cmp c) (a : α) : c a a = 0 := by
  have := h.neg a a
  omega
theorem Cmp.lt_le (h : Cmp c) {a b d : α} (h1 : c a b < 0) (h2 : c b d ≤ 0) : c a d < 0 := by
  have e1 := h.le a b d (by omega) h2
  by_cases e : c a d = 0
  · have n1 := h.neg a d
    have n2 := h.neg a b
    have := h.le b d a h2 (by omega)
    omega
  · omega
theorem Cmp.le_lt (h : Cmp c) {a b d : α} (h1 : c a b ≤ 0) (h2 : c b d < 0) : c a d < 0 := by
  have e1 := h.le a b d h1 (by omega)
  by_cases e : c a d = 0
  · have n1 := h.neg a d
    have n2 := h.neg b d
    have := h.le d a b (by omega) h1
    omega
  · omega
theorem Cmp.eq_eq (h : Cmp c) {a b d : α} (h1 : c a b = 0) (h2 : c b d = 0) : c a d = 0 := by
  have e1 := h.le a b d (by omega) (by omega)
  have n1 := h.neg a b
  have n2 := h.neg b d
  have n3 := h.neg a d
  have e2 := h.le d b a (by omega) (by omega)
  omega
/-- Each below the next. -/
def Str (c : α → α → Int) (l : List α) : Prop := l.Pairwise (fun a b => c a b < 0)
/-- Two lists of one length, alike place by place. -/
inductive All2 {α β : Type} (r : α → β → Prop) : List α → List β → Prop
  | nil : All2 r [] []
  | cons {a : α} {b : β} {l : List α} {m : List β} : r a b → All2 r l m → All2 r (a :: l) (b :: m)
theorem All2.length {α β : Type} {r : α → β → Prop} {l : List α} {m : List β} (h : All2 r l m) : l.length = m.length := by
  induction h with
  | nil => rfl
  | cons _ _ ih => simp [ih]
theorem All2.get {α β : Type} [Inhabited α] [Inhabited β] {r : α → β → Prop} {l : List α} {m : List β} (h : All2 r l m) : ∀ j, j < l.length → r l[j]! m[j]! := by
  induction h with
  | nil => intro j hj; cases hj
  | cons h1 _ ih =>
    intro j hj
    cases j with
    | zero => simpa using h1
    | succ j => simpa using ih j (by simpa using hj)
theorem str_unique (h : Cmp c) : ∀ (l m : List α), Str c l → Str c m → (∀ x ∈ l, ∃ y ∈ m, c x y = 0) → (∀ y ∈ m, ∃ x ∈ l, c x y = 0) → All2 (fun a b => c a b = 0) l m
  | [], [], _, _, _, _ => .nil
  | [], b :: m, _, _, _, h2 => by
    obtain ⟨x, hx, _⟩ := h2 b (by simp)
    cases hx
  | a :: l, [], _, _, h1, _ => by
    obtain ⟨x, hx, _⟩ := h1 a (by simp)
    cases hx
  | a :: l, b :: m, s1, s2, h1, h2 => by
    unfold Str at s1 s2
    rw [List.pairwise_cons] at s1 s2
    have hab : c a b = 0 := by
      obtain ⟨y, hy, e1⟩ := h1 a (by simp)
      obtain ⟨x, hx, e2⟩ := h2 b (by simp)
      rcases List.mem_cons.1 hy with rfl | hy
      · exact e1
      · rcases List.mem_cons.1 hx with rfl | hx
        · exact e2
        · have n1 := h.neg a y
          have g1 := h.lt_le (s2.1 y hy) (show c y a ≤ 0 by omega)
          have g2 := h.lt_le (s1.1 x hx) (show c x b ≤ 0 by omega)
          have n2 := h.neg a b
          omega
    refine .cons hab (str_unique h l m s1.2 s2.2 ?_ ?_)
    · intro x hx
      obtain ⟨y, hy, e⟩ := h1 x (by simp [hx])
      rcases List.mem_cons.1 hy with rfl | hy
      · have n := h.neg a y
        have n2 := h.neg x y
        have g := h.lt_le (s1.1 x hx) (show c x y ≤ 0 by omega)
        omega
      · exact ⟨y, hy, e⟩
    · intro y hy
      obtain ⟨x, hx, e⟩ := h2 y (by simp [hy])
      rcases List.mem_cons.1 hx with rfl | hx
      · have g := h.le_lt (show c x b ≤ 0 by omega) (s2.1 y hy)
        omega
      · exact ⟨x, hx, e⟩
/-- An insertion that keeps what is there. -/
def insC (c : α → α → Int) (x : α) : List α → List α
  | [] => [x]
  | y :: l => if c y x < 0 then y :: insC c x l else if c y x = 0 then y :: l else x :: y :: l
theorem ins_mem (x : α) : ∀ (l : List α) (z : α), z ∈ insC c x l → z = x ∨ z ∈ l
  | [], z, hz => by simpa [insC] using hz
  | y :: l, z, hz => by
    unfold insC at hz
    split at hz
    · rcases List.mem_cons.1 hz with rfl | hz
      · simp
      · rcases ins_mem x l z hz with e | e <;> simp [e]
    · split at hz
      · exact .inr hz
      · rcases List.mem_cons.1 hz with rfl | hz
        · simp
        · exact .inr hz
theorem ins_keeps (x : α) : ∀ (l : List α) (z : α), z ∈ l → z ∈ insC c x l
  | y :: l, z, hz => by
    unfold insC
    split
    · rcases List.mem_cons.1 hz with rfl | hz
      · simp
      · simp [ins_keeps x l z hz]
    · split
      · exact hz
      · exact List.mem_cons_of_mem _ hz
theorem ins_has (h : Cmp c) (x : α) : ∀ (l : List α), ∃ y ∈ insC c x l, c x y = 0
  | [] => ⟨x, by simp [insC], h.refl x⟩
  | y :: l => by
    unfold insC
    split
    · obtain ⟨z, hz, e⟩ := ins_has h x l
      exact ⟨z, by simp [hz], e⟩
    · split
      · rename_i e
        refine ⟨y, by simp, ?_⟩
        have := h.neg x y
        omega
      · exact ⟨x, by simp, h.refl x⟩
theorem ins_str (h : Cmp c) (x : α) : ∀ (l : List α), Str c l → Str c (insC c x l)
  | [], _ => by simp [Str, insC]
  | y :: l, s => by
    have s' := s
    unfold Str at s'
    rw [List.pairwise_cons] at s'
    unfold insC
    split
    · rename_i e
      unfold Str
      rw [List.pairwise_cons]
      refine ⟨fun z hz => ?_, ins_str h x l s'.2⟩
      rcases ins_mem x l z hz with rfl | hz
      · exact e
      · exact s'.1 z hz
    · split
      · exact s
      · rename_i e1 e2
        have n := h.neg x y
        unfold Str
        rw [List.pairwise_cons]
        refine ⟨fun z hz => ?_, s⟩
        rcases List.mem_cons.1 hz with rfl | hz
        · omega
        · exact h.lt_le (show c x y < 0 by omega) (by have := s'.1 z hz; omega)
/-- Some, each put in its place. -/
def sortC (c : α → α → Int) (l : List α) : List α := l.foldl (fun acc x => insC c x acc) []
theorem fold_str (h : Cmp c) : ∀ (l acc : List α), Str c acc → Str c (l.foldl (fun acc x => insC c x acc) acc) ∧
    (∀ z ∈ l.foldl (fun acc x => insC c x acc) acc, z ∈ l ∨ z ∈ acc) ∧ (∀ z, z ∈ acc → z ∈ l.foldl (fun acc x => insC c x acc) acc) ∧ (∀ x ∈ l, ∃ y ∈ l.foldl (fun acc x => insC c x acc) acc, c x y = 0)
  | [], acc, s => ⟨s, fun _ hz => .inr hz, fun _ hz => hz, fun x hx => by cases hx⟩
  | a :: l, acc, s => by
    obtain ⟨g1, g2, g3, g4⟩ := fold_str h l (insC c a acc) (ins_str h a acc s)
    refine ⟨g1, fun z hz => ?_, fun z hz => g3 z (ins_keeps a acc z hz), fun x hx => ?_⟩
    · rcases g2 z hz with e | e
      · exact .inl (by simp [e])
      · rcases ins_mem a acc z e with e | e
        · exact .inl (by simp [e])
        · exact .inr e
    · rcases List.mem_cons.1 hx with rfl | hx
      · obtain ⟨y, hy, e⟩ := ins_has h x acc
        exact ⟨y, g3 y hy, e⟩
      · exact g4 x hx
theorem sort_str (h : Cmp c) (l : List α) : Str c (sortC c l) ∧ (∀ z ∈ sortC c l, z ∈ l) ∧ (∀ x ∈ l, ∃ y ∈ sortC c l, c x y = 0) := by
  obtain ⟨g1, g2, -, g4⟩ := fold_str h l [] .nil
  refine ⟨g1, fun z hz => ?_, g4⟩
  rcases g2 z hz with e | e
  · exact e
  · cases e
/-- A sorted row, the first of each run kept. -/
theorem kept_str [Inhabited α] (h : Cmp c) (d : Array α) (kp : Nat → Bool) (h0 : kp 0 = true) (hk : ∀ j, 0 < j → j < d.size → (kp j = true ↔ c d[j]! d[j - 1]! ≠ 0)) (hs : ∀ j, 0 < j → j < d.size → c d[j - 1]! d[j]! ≤ 0) :
    ∀ m, m ≤ d.size → Str c (keptUpTo kp d m) ∧ (∀ z ∈ keptUpTo kp d m, ∃ j, j < m ∧ z = d[j]!) ∧ (∀ j, j < m → ∃ y ∈ keptUpTo kp d m, c d[j]! y = 0) ∧ (0 < m → ∀ z ∈ keptUpTo kp d m, c z d[m - 1]! ≤ 0)
  | 0, _ => by simp [keptUpTo, Str]
  | m + 1, hm => by
    obtain ⟨g1, g2, g3, g4⟩ := kept_str h d kp h0 hk hs m (by omega)
    rw [keptUpTo_succ]
    by_cases hk' : kp m = true
    · rw [if_pos hk']
      have hall : ∀ z ∈ keptUpTo kp d m, c z d[m]! < 0 := by
        intro z hz
        have hm0 : 0 < m := by
          rcases Nat.eq_zero_or_pos m with rfl | e
          · simp [keptUpTo] at hz
          · exact e
        have e1 := g4 hm0 z hz
        have e2 := hs m hm0 (by omega)
        have e3 := (hk m hm0 (by omega)).1 hk'
        have n := h.neg d[m]! d[m - 1]!
        exact h.le_lt e1 (by omega)
      refine ⟨?_, ?_, ?_, ?_⟩
      · unfold Str
        rw [List.pairwise_append]
        refine ⟨g1, by simp, fun a ha b hb => ?_⟩
        have : b = d[m]! := by simpa using hb
        rw [this]
        exact hall a ha
      · intro z hz
        rcases List.mem_append.1 hz with hz | hz
        · obtain ⟨j, hj, e⟩ := g2 z hz
          exact ⟨j, by omega, e⟩
        · exact ⟨m, by omega, by simpa using hz⟩
      · intro j hj
        by_cases e : j = m
        · subst e
          exact ⟨d[j]!, by simp, h.refl _⟩
        · obtain ⟨y, hy, e⟩ := g3 j (by omega)
          exact ⟨y, by simp [hy], e⟩
      · intro _ z hz
        simp only [Nat.add_sub_cancel]
        rcases List.mem_append.1 hz with hz | hz
        · have := hall z hz
          omega
        · have : z = d[m]! := by simpa using hz
          rw [this, h.refl]
          omega
    · rw [if_neg hk', List.append_nil]
      have hm0 : 0 < m := by
        rcases Nat.eq_zero_or_pos m with rfl | e
        · exact absurd h0 hk'
        · exact e
      have e3 : c d[m]! d[m - 1]! = 0 := by
        by_cases e : c d[m]! d[m - 1]! = 0
        · exact e
        · exact absurd ((hk m hm0 (by omega)).2 e) hk'
      refine ⟨g1, ?_, ?_, ?_⟩
      · intro z hz
        obtain ⟨j, hj, e⟩ := g2 z hz
        exact ⟨j, by omega, e⟩
      · intro j hj
        by_cases e : j = m
        · subst e
          obtain ⟨y, hy, e⟩ := g3 (j - 1) (by omega)
          exact ⟨y, hy, h.eq_eq e3 e⟩
        · exact g3 j (by omega)
      · intro _ z hz
        simp only [Nat.add_sub_cancel]
        have n := h.neg d[m]! d[m - 1]!
        exact h.le _ _ _ (g4 hm0 z hz) (by omega)
/-- Sorted and compacted is inserted one by one, up to likeness. -/
theorem sorted_kept [Inhabited α] (h : Cmp c) (l : List α) (d : Array α) (hp : d.toList.Perm l) (kp : Nat → Bool) (h0 : kp 0 = true) (hk : ∀ j, 0 < j → j < d.size → (kp j = true ↔ c d[j]! d[j - 1]! ≠ 0)) (hs : ∀ j, 0 < j → j < d.size → c d[j - 1]! d[j]! ≤ 0) :
    All2 (fun a b => c a b = 0) (keptUpTo kp d d.size) (sortC c l) := by
  obtain ⟨g1, g2, g3, -⟩ := kept_str h d kp h0 hk hs d.size (Nat.le_refl _)
  obtain ⟨k1, k2, k3⟩ := sort_str h l
  refine str_unique h _ _ g1 k1 ?_ ?_
  · intro x hx
    obtain ⟨j, hj, rfl⟩ := g2 x hx
    exact k3 _ (hp.mem_iff.1 (by rw [getElem!_pos d j hj]; simp))
  · intro y hy
    have := hp.mem_iff.2 (k2 y hy)
    obtain ⟨j, hj, e⟩ := List.mem_iff_getElem.1 this
    have hj' : j < d.size := by simpa using hj
    obtain ⟨z, hz, e2⟩ := g3 j hj'
    have e3 : d[j]! = y := by rw [getElem!_pos d j hj']; simpa using e
    rw [e3] at e2
    have n := h.neg z y
    exact ⟨z, hz, by omega⟩
end Go.Proofs.YtdlbciiekghkaaaDoor
