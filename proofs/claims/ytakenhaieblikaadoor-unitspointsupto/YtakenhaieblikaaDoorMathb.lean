import Derived.Test.YtakenhaieblikaaDoorMath
namespace Go.Proofs.YtakenhaieblikaaDoor
namespace M

def jn (h l : Nat) : Nat := 65536 + 1024 * (h - 55296) + (l - 56320)
/-- What stands ahead of the seam, the seam, what stands behind it. -/
def meetL (a b : List Nat) : List Nat × List Nat × List Nat :=
  if a.length < 3 ∨ b.length < 3 then (a, [], b)
  else if isHi (surr (a.drop (a.length - 3))).1 = true ∧ isLo (surr b).1 = true then (a.take (a.length - 3), E (jn (surr (a.drop (a.length - 3))).1 (surr b).1), b.drop 3)
  else (a, [], b)

def lastHi : Bool → List Nat → Bool
  | h, [] => h
  | _, c :: r => lastHi (isHi c) r
theorem noPair_app : ∀ (cs ds : List Nat) (h : Bool), noPair h (cs ++ ds) = (noPair h cs && noPair (lastHi h cs) ds)
  | [], ds, h => by simp [noPair, lastHi]
  | c :: r, ds, h => by simp only [List.cons_append, noPair, lastHi]; rw [noPair_app r ds]; simp [Bool.and_assoc]
theorem lastHi_app (cs : List Nat) (c : Nat) : ∀ h, lastHi h (cs ++ [c]) = isHi c := by
  induction cs with
  | nil => intro h; rfl
  | cons d r ih => intro h; simp only [List.cons_append, lastHi]; exact ih _
theorem split_last : ∀ (cs : List Nat), cs = [] ∨ ∃ r c, cs = r ++ [c]
  | [] => .inl rfl
  | c :: r => by
    rcases split_last r with rfl | ⟨r', d, rfl⟩
    · exact .inr ⟨[], c, rfl⟩
    · exact .inr ⟨c :: r', d, rfl⟩
theorem E_inj {c d : Nat} (hc : c ≤ 1114111) (hd : d ≤ 1114111) {r q : List Nat} (h : E c ++ r = E d ++ q) : c = d := by
  have h1 := dec_E c r hc
  rw [h, dec_E d q hd] at h1
  exact (congrArg Prod.fst h1).symm
theorem isHi_3 {c : Nat} (h : isHi c = true) : E c = [237, 128 + c / 64 % 64, 128 + c % 64] := by
  rw [isHi_iff] at h
  unfold E; rw [if_neg (by omega), if_neg (by omega), if_pos (by omega)]
  simp only [List.cons.injEq, and_true]; omega
theorem isLo_3 {c : Nat} (h : isLo c = true) : E c = [237, 128 + c / 64 % 64, 128 + c % 64] := by
  rw [isLo_iff] at h
  unfold E; rw [if_neg (by omega), if_neg (by omega), if_pos (by omega)]
  simp only [List.cons.injEq, and_true]; omega
theorem surr_nz {l : List Nat} (h : 55296 ≤ (surr l).1) : (surr l).2 = 3 := by
  unfold surr at *
  split
  · rename_i h'; rw [if_pos h'] at h; simp at h
  · rfl
theorem E3_len {c : Nat} (h : isHi c = true ∨ isLo c = true) : (E c).length = 3 := by
  rcases h with h | h
  · rw [isHi_3 h]; rfl
  · rw [isLo_3 h]; rfl
theorem surr_E {c : Nat} (r : List Nat) (h : isHi c = true ∨ isLo c = true) : surr (E c ++ r) = (c, 3) := by
  have hb : 55296 ≤ c ∧ c ≤ 57343 := by
    rcases h with h | h
    · rw [isHi_iff] at h; omega
    · rw [isLo_iff] at h; omega
  rw [(goD_sur c r hb.1 hb.2).2, E3_len h]

/-- The last three bytes are those of a high surrogate just if the last code point is one. -/
theorem last_hi (cs : List Nat) (hs : small cs) (h3 : 3 ≤ (cs.flatMap E).length) (hh : isHi (surr ((cs.flatMap E).drop ((cs.flatMap E).length - 3))).1 = true) :
    ∃ r, cs = r ++ [(surr ((cs.flatMap E).drop ((cs.flatMap E).length - 3))).1] := by
  generalize hv : (surr ((cs.flatMap E).drop ((cs.flatMap E).length - 3))).1 = v at *
  have hv1 : 55296 ≤ (surr ((cs.flatMap E).drop ((cs.flatMap E).length - 3))).1 := by rw [hv]; rw [isHi_iff] at hh; omega
  have hn := surr_nz hv1
  obtain ⟨i1, i2, i3⟩ := surr_inv _ (by rw [hn]; omega)
  rw [hv, hn] at i2
  have e3 : (cs.flatMap E).drop ((cs.flatMap E).length - 3) = E v := by
    rw [i2, List.drop_drop, List.drop_of_length_le (by omega), List.append_nil]
  rcases split_last cs with rfl | ⟨r, c, rfl⟩
  · simp at h3
  · refine ⟨r, ?_⟩
    have hc : c ≤ 1114111 := hs c (by simp)
    have hfl : (r ++ [c]).flatMap E = r.flatMap E ++ E c := by simp
    rw [hfl] at e3
    rw [isHi_3 hh] at e3
    have hl := E_len c
    suffices c = v by rw [this]
    generalize r.flatMap E = pre at *
    have key : ∃ q, pre ++ E c = q ++ [237, 128 + v / 64 % 64, 128 + v % 64] := ⟨_, by rw [← e3]; exact (List.take_append_drop _ _).symm⟩
    obtain ⟨q, hq⟩ := key
    have hrev := congrArg List.reverse hq
    simp only [List.reverse_append, List.reverse_cons, List.reverse_nil, List.nil_append, List.cons_append] at hrev
    unfold E at hrev
    split at hrev
    · simp at hrev; omega
    · split at hrev
      · simp at hrev; omega
      · split at hrev
        · simp only [List.reverse_cons, List.reverse_nil, List.nil_append, List.cons_append, List.cons.injEq] at hrev
          rw [isHi_iff] at hh
          omega
        · simp at hrev; omega

theorem meet_spec (a b cs ds : List Nat) (ha : Wtf a cs) (hb : Wtf b ds) :
    (meetL a b).1 ++ ((meetL a b).2.1 ++ (meetL a b).2.2) = ofL (cs.flatMap U ++ ds.flatMap U) := by
  obtain ⟨ea, sa, pa⟩ := ha
  obtain ⟨eb, sb, pb⟩ := hb
  have hsm : small (cs ++ ds) := fun c hc => by
    rw [List.mem_append] at hc
    rcases hc with hc | hc
    · exact sa c hc
    · exact sb c hc
  have plain : noPair false (cs ++ ds) = true → a ++ ([] ++ b) = ofL (cs.flatMap U ++ ds.flatMap U) := by
    intro hp
    unfold ofL
    rw [← List.flatMap_append, row_flat (cs ++ ds) false hsm hp, List.flatMap_append, ea, eb, List.nil_append]
  by_cases hseam : ∃ r h l q, cs = r ++ [h] ∧ ds = l :: q ∧ isHi h = true ∧ isLo l = true
  · obtain ⟨r, h, l, q, rfl, rfl, hh, hl⟩ := hseam
    have hE := E3_len (.inl hh)
    have hE' := E3_len (.inr hl)
    have ea' : a = r.flatMap E ++ E h := by rw [ea]; simp
    have eb' : b = E l ++ q.flatMap E := by rw [eb]; simp
    have hlen : a.length = (r.flatMap E).length + 3 := by rw [ea', List.length_append, hE]
    have hd : a.drop (a.length - 3) = E h := by rw [hlen, ea', Nat.add_sub_cancel, List.drop_left]
    have ht : a.take (a.length - 3) = r.flatMap E := by rw [hlen, ea', Nat.add_sub_cancel, List.take_left]
    have s1 : surr (E h) = (h, 3) := by have := surr_E [] (.inl hh); rwa [List.append_nil] at this
    have s2 : surr b = (l, 3) := by rw [eb']; exact surr_E _ (.inr hl)
    have hb3 : b.drop 3 = q.flatMap E := by rw [eb', ← hE', List.drop_left]
    have hbl : b.length = 3 + (q.flatMap E).length := by rw [eb', List.length_append, hE']
    have e : meetL a b = (r.flatMap E, E (jn h l), q.flatMap E) := by
      unfold meetL
      rw [if_neg (by omega), hd, s1, s2, ht, hb3, if_pos ⟨hh, hl⟩]
    rw [e]
    have hh' := (isHi_iff h).1 hh
    have hl' := (isLo_iff l).1 hl
    have hj : U (jn h l) = [h, l] := by
      unfold U jn; rw [if_neg (by omega)]; simp only [List.cons.injEq, and_true]; omega
    have hU : (r ++ [h]).flatMap U ++ (l :: q).flatMap U = (r ++ jn h l :: q).flatMap U := by
      have u1 : U h = [h] := by unfold U; rw [if_pos (by omega)]
      have u2 : U l = [l] := by unfold U; rw [if_pos (by omega)]
      simp [u1, u2, hj]
    have j1 : isLo (jn h l) = false := by
      cases hq : isLo (jn h l) with
      | false => rfl
      | true => rw [isLo_iff] at hq; unfold jn at hq; omega
    have j2 : isHi (jn h l) = false := by
      cases hq : isHi (jn h l) with
      | false => rfl
      | true => rw [isHi_iff] at hq; unfold jn at hq; omega
    have j3 : isHi l = false := by
      cases hq : isHi l with
      | false => rfl
      | true => rw [isHi_iff] at hq; omega
    have p1 : noPair false r = true := by
      rw [noPair_app] at pa; simp only [Bool.and_eq_true] at pa; exact pa.1
    have p2 : noPair false q = true := by
      simp only [noPair, Bool.and_eq_true, j3] at pb; exact pb.2
    have hp : noPair false (r ++ jn h l :: q) = true := by
      rw [noPair_app, p1]; simp [noPair, j1, j2, p2]
    have hs2 : small (r ++ jn h l :: q) := by
      intro c hc
      simp only [List.mem_append, List.mem_cons] at hc
      rcases hc with hc | hc | hc
      · exact sa c (by simp [hc])
      · unfold jn at hc; omega
      · exact sb c (by simp [hc])
    unfold ofL
    rw [hU, row_flat _ false hs2 hp]
    simp
  · have hp : noPair false (cs ++ ds) = true := by
      rw [noPair_app, pa, Bool.true_and]
      cases hlh : lastHi false cs with
      | false => exact pb
      | true =>
        rcases split_last cs with rfl | ⟨r, c, rfl⟩
        · simp [lastHi] at hlh
        · rw [lastHi_app] at hlh
          cases ds with
          | nil => rfl
          | cons l q =>
            cases hl : isLo l with
            | true => exact absurd ⟨r, c, l, q, rfl, rfl, hlh, hl⟩ hseam
            | false => simp only [noPair, hl, Bool.and_false, Bool.not_false, Bool.true_and] at pb ⊢; exact pb
    have e : meetL a b = (a, [], b) := by
      unfold meetL
      split
      · rfl
      · rename_i h3
        rw [if_neg]
        rintro ⟨h1, h2⟩
        apply hseam
        rw [ea] at h1 h3
        obtain ⟨r, hr⟩ := last_hi cs sa (by omega) h1
        have hb1 : 55296 ≤ (surr b).1 := by rw [isLo_iff] at h2; omega
        have hn := surr_nz hb1
        obtain ⟨i1, i2, i3⟩ := surr_inv b (by rw [hn]; omega)
        cases ds with
        | nil => simp at eb; rw [eb] at h3; simp at h3
        | cons l q =>
          have : (surr b).1 = l := E_inj i1 (sb l (by simp)) (r := b.drop (surr b).2) (q := q.flatMap E) (by rw [← i2, eb]; simp)
          refine ⟨r, _, l, q, hr, rfl, h1, by rw [← this]; exact h2⟩
    rw [e]
    exact plain hp
theorem meet_len (a b : List Nat) : (meetL a b).1.length ≤ a.length ∧ (meetL a b).2.1.length ≤ 4 ∧ (meetL a b).2.2.length ≤ b.length := by
  unfold meetL
  split
  · simp
  · split
    · have := E_len (jn (surr (a.drop (a.length - 3))).1 (surr b).1)
      simp only [List.length_take, List.length_drop]; omega
    · simp
end M
end Go.Proofs.YtakenhaieblikaaDoor
