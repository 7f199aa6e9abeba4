import Derived.Test.YtakenhaieblikaaDoorMath
namespace Go.Proofs.YtakenhaieblikaaDoor
namespace M

/-- The order of two rows. -/
def cmpL : List Nat → List Nat → Int
  | [], [] => 0
  | [], _ :: _ => -1
  | _ :: _, [] => 1
  | a :: r, b :: q => if a < b then -1 else if b < a then 1 else cmpL r q

def Suf (t x : List Nat) (k : Nat) : Prop := k ≤ t.length ∧ t.take k <:+ x
theorem suf_zero (t x : List Nat) : Suf t x 0 := ⟨Nat.zero_le _, by simp⟩
theorem suf_len {t x : List Nat} {k : Nat} (h : Suf t x k) : k ≤ x.length := by
  have := h.2.length_le
  rw [List.length_take] at this
  have := h.1
  omega
theorem take_succ' {t : List Nat} {j : Nat} (h : j < t.length) : t.take (j + 1) = t.take j ++ [t[j]] := List.take_succ_eq_append_getElem h
theorem suf_step (t x : List Nat) (u k : Nat) : Suf t (x ++ [u]) k ↔ k = 0 ∨ ∃ j, k = j + 1 ∧ j < t.length ∧ Suf t x j ∧ t[j]? = some u := by
  constructor
  · rintro ⟨h1, h2⟩
    cases k with
    | zero => exact .inl rfl
    | succ j =>
      right
      refine ⟨j, rfl, by omega, ?_⟩
      rw [take_succ' (by omega)] at h2
      obtain ⟨pre, hp⟩ := h2
      rw [← List.append_assoc] at hp
      have := List.append_inj' hp rfl
      refine ⟨⟨by omega, ⟨pre, this.1⟩⟩, ?_⟩
      have h3 : t[j] = u := by simpa using this.2
      rw [List.getElem?_eq_getElem (by omega), h3]
  · rintro (rfl | ⟨j, rfl, hj, ⟨h1, ⟨pre, hp⟩⟩, hu⟩)
    · exact suf_zero _ _
    · refine ⟨by omega, ⟨pre, ?_⟩⟩
      rw [take_succ' hj, ← List.append_assoc, hp]
      rw [List.getElem?_eq_getElem hj] at hu
      simp at hu
      rw [hu]
theorem suf_mono {t x : List Nat} {j k : Nat} (hk : Suf t x k) (hj : Suf t x j) (h : j ≤ k) : Suf t (t.take k) j := by
  refine ⟨hj.1, ?_⟩
  refine List.suffix_of_suffix_length_le hj.2 hk.2 ?_
  rw [List.length_take, List.length_take]; have := hk.1; omega
theorem suf_trans {t x : List Nat} {j k : Nat} (hj : Suf t (t.take k) j) (hk : Suf t x k) : Suf t x j := ⟨hj.1, hj.2.trans hk.2⟩

/-- e is the longest proper border of t's first m. -/
def MaxB (t : List Nat) (m e : Nat) : Prop := e < m ∧ Suf t (t.take m) e ∧ ∀ j, j < m → Suf t (t.take m) j → j ≤ e
/-- k is the most of t's beginning that stands at the end of x. -/
def Cand (t x : List Nat) (k : Nat) : Prop := k < t.length ∧ Suf t x k ∧ ∀ j, j < t.length → Suf t x j → j ≤ k
/-- The state of extend. -/
def Ext (t x : List Nat) (u k : Nat) : Prop := k < t.length ∧ Suf t x k ∧ ∀ j, j < t.length → Suf t x j → t[j]? = some u → j ≤ k
theorem ext_of_cand {t x : List Nat} {u k : Nat} (h : Cand t x k) : Ext t x u k := ⟨h.1, h.2.1, fun j hj hs _ => h.2.2 j hj hs⟩
theorem ext_step {t x : List Nat} {u k e : Nat} (h : Ext t x u k) (hne : t[k]? ≠ some u) (hb : MaxB t k e) : Ext t x u e := by
  refine ⟨by have := hb.1; have := h.1; omega, suf_trans hb.2.1 h.2.1, fun j hj hs hu => ?_⟩
  have hjk := h.2.2 j hj hs hu
  have : j ≠ k := fun e => by subst e; exact hne hu
  exact hb.2.2 j (by omega) (suf_mono h.2.1 hs (by omega))
theorem ext_hit {t x : List Nat} {u k : Nat} (h : Ext t x u k) (hu : t[k]? = some u) : Suf t (x ++ [u]) (k + 1) ∧ ∀ j, Suf t (x ++ [u]) j → j ≤ k + 1 := by
  refine ⟨(suf_step t x u _).2 (.inr ⟨k, rfl, h.1, h.2.1, hu⟩), fun j hj => ?_⟩
  rcases (suf_step t x u j).1 hj with rfl | ⟨i, rfl, hi, hs, hi'⟩
  · omega
  · have := h.2.2 i hi hs hi'; omega
theorem ext_miss {t x : List Nat} {u : Nat} (h : Ext t x u 0) (hu : t[0]? ≠ some u) : Suf t (x ++ [u]) 0 ∧ ∀ j, Suf t (x ++ [u]) j → j ≤ 0 := by
  refine ⟨suf_zero _ _, fun j hj => ?_⟩
  rcases (suf_step t x u j).1 hj with rfl | ⟨i, rfl, hi, hs, hi'⟩
  · omega
  · have := h.2.2 i hi hs hi'
    have : i = 0 := by omega
    subst this
    exact absurd hi' hu
theorem maxB_one (t : List Nat) : MaxB t 1 0 := ⟨by omega, suf_zero _ _, fun j hj _ => by omega⟩
/-- From the borders of the first i to those of the first i + 1. -/
theorem cand_of_maxB {t : List Nat} {i e : Nat} (hi : 1 ≤ i) (hit : i < t.length) (h : MaxB t i e) : Cand t ((t.take i).drop 1) e := by
  have hx : ((t.take i).drop 1).length = i - 1 := by rw [List.length_drop, List.length_take]; omega
  refine ⟨by have := h.1; omega, ⟨h.2.1.1, ?_⟩, fun j hj hs => ?_⟩
  · refine List.suffix_of_suffix_length_le h.2.1.2 (List.drop_suffix _ _) ?_
    rw [hx, List.length_take]; have := h.1; omega
  · have hl := suf_len hs
    rw [hx] at hl
    exact h.2.2 j (by omega) ⟨hs.1, hs.2.trans (List.drop_suffix _ _)⟩
theorem drop_one_snoc {t : List Nat} {i u : Nat} (hi : 1 ≤ i) (hu : t[i]? = some u) : (t.take i).drop 1 ++ [u] = (t.take (i + 1)).drop 1 := by
  obtain ⟨h1, h2⟩ := List.getElem?_eq_some_iff.1 hu
  rw [take_succ' h1, h2, List.drop_append_of_le_length (by rw [List.length_take]; omega)]
theorem maxB_of {t : List Nat} {i r u : Nat} (hi : 1 ≤ i) (hu : t[i]? = some u) (h1 : Suf t ((t.take i).drop 1 ++ [u]) r) (h2 : ∀ j, Suf t ((t.take i).drop 1 ++ [u]) j → j ≤ r) : MaxB t (i + 1) r := by
  rw [drop_one_snoc hi hu] at h1 h2
  have hlt := (List.getElem?_eq_some_iff.1 hu).1
  have hx : ((t.take (i + 1)).drop 1).length = i := by rw [List.length_drop, List.length_take]; omega
  refine ⟨by have := suf_len h1; omega, ⟨h1.1, h1.2.trans (List.drop_suffix _ _)⟩, fun j hj hs => h2 j ⟨hs.1, ?_⟩⟩
  refine List.suffix_of_suffix_length_le hs.2 (List.drop_suffix _ _) ?_
  rw [hx, List.length_take]; omega

/-- t stands in l at k. -/
def At (l t : List Nat) (k : Nat) : Prop := k + t.length ≤ l.length ∧ (l.drop k).take t.length = t
theorem at_iff (l t : List Nat) (e : Nat) (he : e ≤ l.length) (hle : t.length ≤ e) : t <:+ l.take e ↔ At l t (e - t.length) := by
  have hsplit : l.take e = l.take (e - t.length) ++ (l.drop (e - t.length)).take t.length := by
    rw [← List.take_add]; congr 1; omega
  constructor
  · intro h
    refine ⟨by omega, ?_⟩
    rw [hsplit] at h
    have := List.suffix_of_suffix_length_le h (List.suffix_append (l.take (e - t.length)) ((l.drop (e - t.length)).take t.length)) (by rw [List.length_take, List.length_drop]; omega)
    exact (this.eq_of_length (by rw [List.length_take, List.length_drop]; omega)).symm
  · rintro ⟨_, h⟩
    rw [hsplit, h]
    exact List.suffix_append _ _
/-- r is the first place from f on, or -1. -/
def FirstAt (l t : List Nat) (f : Nat) (r : Int) : Prop := (r = -1 ∧ ∀ k, f ≤ k → ¬ At l t k) ∨ (∃ k : Nat, r = (k : Int) ∧ f ≤ k ∧ At l t k ∧ ∀ j, f ≤ j → j < k → ¬ At l t j)
theorem first_unique {l t : List Nat} {f : Nat} {r q : Int} (h : FirstAt l t f r) (g : FirstAt l t f q) : r = q := by
  rcases h with ⟨rfl, h⟩ | ⟨k, rfl, h1, h2, h3⟩
  · rcases g with ⟨rfl, _⟩ | ⟨j, rfl, g1, g2, _⟩
    · rfl
    · exact absurd g2 (h j g1)
  · rcases g with ⟨rfl, g⟩ | ⟨j, rfl, g1, g2, g3⟩
    · exact absurd h2 (g k h1)
    · have : ¬ j < k := fun hl => h3 j g1 hl g2
      have : ¬ k < j := fun hl => g3 k h1 hl h2
      omega
theorem at_drop (l t : List Nat) (f k : Nat) (hf : f ≤ l.length) : At (l.drop f) t k ↔ At l t (f + k) := by
  unfold At
  rw [List.length_drop, List.drop_drop]
  constructor
  · rintro ⟨h1, h2⟩; exact ⟨by omega, h2⟩
  · rintro ⟨h1, h2⟩; exact ⟨by omega, h2⟩
theorem first_drop {l t : List Nat} {f : Nat} {n : Int} (hf : f ≤ l.length) (h : FirstAt (l.drop f) t 0 n) : FirstAt l t f (if n < 0 then -1 else (f : Int) + n) := by
  rcases h with ⟨rfl, h⟩ | ⟨k, rfl, h1, h2, h3⟩
  · left
    refine ⟨rfl, fun k hk hat => h (k - f) (by omega) ((at_drop l t f (k - f) hf).2 ?_)⟩
    rw [show f + (k - f) = k by omega]; exact hat
  · right
    refine ⟨f + k, by rw [if_neg (by omega)]; omega, by omega, (at_drop l t f k hf).1 h2, fun j hj hl hat => h3 (j - f) (by omega) (by omega) ((at_drop l t f (j - f) hf).2 ?_)⟩
    rw [show f + (j - f) = j by omega]; exact hat
/-- The state of find: no full place has ended by now. -/
def Seek (l t : List Nat) (i k : Nat) : Prop := Cand t (l.take i) k ∧ ∀ e, e ≤ i → ¬ t <:+ l.take e
theorem seek_zero (l t : List Nat) (h : 0 < t.length) : Seek l t 0 0 := by
  refine ⟨⟨h, suf_zero _ _, fun j hj hs => by have := suf_len hs; simpa using this⟩, fun e he hs => ?_⟩
  have := hs.length_le
  rw [List.length_take] at this
  omega
theorem take_snoc' {l : List Nat} {i u : Nat} (hu : l[i]? = some u) : l.take (i + 1) = l.take i ++ [u] := by
  obtain ⟨h1, h2⟩ := List.getElem?_eq_some_iff.1 hu
  rw [take_succ' h1, h2]
theorem seek_step {l t : List Nat} {i k r u : Nat} (hs : Seek l t i k) (hu : l[i]? = some u) (h1 : Suf t (l.take i ++ [u]) r) (h2 : ∀ j, Suf t (l.take i ++ [u]) j → j ≤ r) (hr : r ≠ t.length) : Seek l t (i + 1) r := by
  rw [← take_snoc' hu] at h1 h2
  refine ⟨⟨by have := h1.1; omega, h1, fun j _ hj => h2 j hj⟩, fun e he hsuf => ?_⟩
  by_cases h : e ≤ i
  · exact hs.2 e h hsuf
  · have : e = i + 1 := by omega
    subst this
    have := h2 t.length ⟨Nat.le_refl _, by rw [List.take_length]; exact hsuf⟩
    have := h1.1
    omega
theorem seek_hit {l t : List Nat} {i k u : Nat} (hs : Seek l t i k) (hu : l[i]? = some u) (h1 : Suf t (l.take i ++ [u]) t.length) : t.length ≤ i + 1 ∧ FirstAt l t 0 ((i : Int) + 1 - (t.length : Int)) := by
  rw [← take_snoc' hu] at h1
  have hlt := (List.getElem?_eq_some_iff.1 hu).1
  have hl := suf_len h1
  rw [List.length_take] at hl
  have hle : t.length ≤ i + 1 := by omega
  have h2 := h1.2
  rw [List.take_length] at h2
  refine ⟨hle, .inr ⟨i + 1 - t.length, by omega, by omega, (at_iff l t (i + 1) (by omega) hle).1 h2, fun j _ hj hat => ?_⟩⟩
  have := hs.2 (j + t.length) (by omega)
  apply this
  have hb := hat.1
  rw [at_iff l t (j + t.length) (by omega) (by omega), Nat.add_sub_cancel]; exact hat
theorem seek_none {l t : List Nat} {k : Nat} (hs : Seek l t l.length k) : FirstAt l t 0 (-1) := by
  refine .inl ⟨rfl, fun j _ hat => ?_⟩
  have hb := hat.1
  apply hs.2 (j + t.length) (by omega)
  rw [at_iff l t (j + t.length) (by omega) (by omega), Nat.add_sub_cancel]; exact hat
theorem first_empty (l : List Nat) (f : Nat) (hf : f ≤ l.length) : FirstAt l [] f (f : Int) := .inr ⟨f, rfl, Nat.le_refl _, ⟨by simpa using hf, by simp⟩, fun j h1 h2 => by omega⟩
end M
end Go.Proofs.YtakenhaieblikaaDoor
