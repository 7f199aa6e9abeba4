import Derived.Test.YtakenhaieblikaaDoorWx
import Derived.Test.YtakenhaieblikaaDoorShelfB
import Derived.LoopTactic
namespace Go.Proofs.YtakenhaieblikaaDoor
open Go.RowKit Go.Shelf
namespace M
/-- no surrogate -/
def sca (c : Nat) : Prop := c ≤ 1114111 ∧ ¬ (55296 ≤ c ∧ c ≤ 57343)
theorem goD_sca (l : List Nat) (hb : ∀ x ∈ l, x < 256) : sca (goD l).1 := by
  by_cases h : (goD l).1 = 65533 ∧ (goD l).2 ≤ 1
  · rw [h.1]; unfold sca; omega
  · obtain ⟨h1, h2, h3⟩ := goD_inv l hb h
    refine ⟨h1, fun hs => h ?_⟩
    have := (goD_sur (goD l).1 (l.drop (goD l).2) hs.1 hs.2).1
    rw [← h2] at this
    rw [this]; exact ⟨rfl, Nat.le_refl _⟩
theorem goD_pos (l : List Nat) (h : l ≠ []) : 1 ≤ (goD l).2 := by
  have : l.length ≠ 0 := fun e => h (List.eq_nil_of_length_eq_zero e)
  unfold goD; rw [if_neg this]
  repeat' split
  all_goals simp
def runesF : Nat → List Nat → List Nat
  | 0, _ => []
  | f + 1, l => if l = [] then [] else (goD l).1 :: runesF f (l.drop (goD l).2)
theorem runesF_fuel : ∀ (f g : Nat) (l : List Nat), l.length ≤ f → l.length ≤ g → runesF f l = runesF g l := by
  intro f
  induction f with
  | zero =>
    intro g l hf _
    have : l = [] := List.eq_nil_of_length_eq_zero (by omega)
    subst this; cases g <;> simp [runesF]
  | succ f ih =>
    intro g l hf hg
    by_cases hn : l = []
    · subst hn; cases g <;> simp [runesF]
    · cases g with
      | zero => exact absurd (List.eq_nil_of_length_eq_zero (by omega)) hn
      | succ g =>
        have := goD_pos l hn
        have hl : 0 < l.length := List.length_pos_iff.2 hn
        simp only [runesF, if_neg hn]
        rw [ih g _ (by simp; omega) (by simp; omega)]
def runes (l : List Nat) : List Nat := runesF l.length l
theorem runes_nil : runes [] = [] := rfl
theorem runes_step (l : List Nat) (h : l ≠ []) : runes l = (goD l).1 :: runes (l.drop (goD l).2) := by
  have hp := goD_pos l h
  have hl : 0 < l.length := List.length_pos_iff.2 h
  unfold runes
  obtain ⟨n, hn⟩ : ∃ n, l.length = n + 1 := ⟨l.length - 1, by omega⟩
  rw [hn]
  show (if l = [] then [] else _) = _
  rw [if_neg h, runesF_fuel n _ (l.drop (goD l).2) (by simp; omega) (Nat.le_refl _)]
theorem runes_sca : ∀ (n : Nat) (l : List Nat), l.length ≤ n → (∀ x ∈ l, x < 256) → ∀ c ∈ runes l, sca c := by
  intro n
  induction n with
  | zero =>
    intro l hl _ c hc
    have : l = [] := List.eq_nil_of_length_eq_zero (by omega)
    subst this; simp [runes_nil] at hc
  | succ n ih =>
    intro l hl hb c hc
    by_cases hn : l = []
    · subst hn; simp [runes_nil] at hc
    · rw [runes_step l hn] at hc
      have hp := goD_pos l hn
      have h0 : 0 < l.length := List.length_pos_iff.2 hn
      rcases List.mem_cons.1 hc with rfl | hc
      · exact goD_sca l hb
      · exact ih _ (by simp; omega) (fun x hx => hb x (List.mem_of_mem_drop hx)) c hc
theorem E_ne (c : Nat) (r : List Nat) : E c ++ r ≠ [] := by
  intro h; have := (E_len c).1; have h2 : (E c ++ r).length = 0 := by rw [h]; rfl
  rw [List.length_append] at h2; omega
theorem runes_flat : ∀ (cs : List Nat), (∀ c ∈ cs, sca c) → runes (cs.flatMap E) = cs
  | [], _ => rfl
  | c :: r, h => by
    have hc := h c (by simp)
    rw [List.flatMap_cons, runes_step _ (E_ne c _), goD_E c _ hc.1 hc.2]
    simp only [List.drop_left]
    rw [runes_flat r (fun x hx => h x (by simp [hx]))]
theorem flat_inj : ∀ (cs ds : List Nat), small cs → small ds → cs.flatMap E = ds.flatMap E → cs = ds
  | [], [], _, _, _ => rfl
  | [], d :: q, _, _, h => by rw [List.flatMap_cons] at h; exact absurd h.symm (E_ne d _)
  | c :: r, [], _, _, h => by rw [List.flatMap_cons] at h; exact absurd h (E_ne c _)
  | c :: r, d :: q, hs, ht, h => by
    rw [List.flatMap_cons, List.flatMap_cons] at h
    have e := E_inj (hs c (by simp)) (ht d (by simp)) h
    subst e
    rw [flat_inj r q (fun x hx => hs x (by simp [hx])) (fun x hx => ht x (by simp [hx])) (List.append_cancel_left h)]
def isSu (c : Nat) : Bool := decide (55296 ≤ c) && decide (c ≤ 57343)
def rep (c : Nat) : Nat := if isSu c then 65533 else c
theorem noPair_sca : ∀ (cs : List Nat) (h : Bool), (∀ c ∈ cs, sca c) → noPair h cs = true
  | [], _, _ => by simp [noPair]
  | c :: r, h, hs => by
    have hc := hs c (by simp)
    have e1 : isLo c = false := by
      cases hh : isLo c with
      | false => rfl
      | true => rw [isLo_iff] at hh; exact absurd ⟨by omega, hh.2⟩ hc.2
    simp [noPair, e1, noPair_sca r _ (fun x hx => hs x (by simp [hx]))]
end M
theorem decodeL_goD (l : List UInt8) (h : l ≠ []) : Lib.decodeL l = M.goD (l.map UInt8.toNat) := by
  have := decodeGo_nums ⟨l.toArray⟩
  unfold Lib.decodeGo at this
  have hs : (⟨l.toArray⟩ : ByteArray).size ≠ 0 := fun e => h (List.eq_nil_of_length_eq_zero (by simpa [ByteArray.size] using e))
  rw [if_neg hs] at this
  exact this
theorem validD_flat : ∀ (cs : List Nat) (l : List UInt8), M.small cs → l.map UInt8.toNat = cs.flatMap M.E → Lib.validD l = cs.all fun c => !M.isSu c
  | [], l, _, h => by
    have : l = [] := by simpa using h
    subst this; rfl
  | c :: r, l, hs, h => by
    rw [List.flatMap_cons] at h
    have hne : l ≠ [] := by
      intro e; subst e; exact M.E_ne c _ h.symm
    have hc := hs c (by simp)
    rw [Lib.validD_step l hne, decodeL_goD l hne, h]
    cases hsu : M.isSu c with
    | true =>
      simp only [M.isSu, Bool.and_eq_true, decide_eq_true_eq] at hsu
      rw [(M.goD_sur c _ hsu.1 hsu.2).1]
      simp [M.isSu, hsu]
    | false =>
      have hn : ¬ (55296 ≤ c ∧ c ≤ 57343) := by
        intro e; simp [M.isSu, e] at hsu
      rw [M.goD_E c _ hc hn]
      have hlen := M.E_len c
      rw [if_neg (by
        rintro ⟨e1, e2⟩
        dsimp only at e1 e2
        subst e1
        revert e2; decide)]
      rw [validD_flat r (l.drop (M.E c).length) (fun x hx => hs x (by simp [hx])) (by rw [List.map_drop, h, List.drop_left])]
      simp [hsu]
end Go.Proofs.YtakenhaieblikaaDoor
