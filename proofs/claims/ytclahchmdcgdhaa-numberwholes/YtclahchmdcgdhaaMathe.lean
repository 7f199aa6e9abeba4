import Derived.Test.YtclahchmdcgdhaaMathd
namespace Go.Proofs.Ytclahchmdcgdhaa
/-- The number that a row of limbs of nine digits stands for, the lowest first. -/
def lv : List Nat → Nat
  | [] => 0
  | a :: l => a + 1000000000 * lv l
/-- What is carried at the end, in limbs. -/
def cars (c : Nat) : List Nat := if h : 0 < c then c % 1000000000 :: cars (c / 1000000000) else []
termination_by c
decreasing_by exact Nat.div_lt_self h (by decide)
def tms (b : Nat) : List Nat → Nat → List Nat
  | [], c => cars c
  | a :: l, c => (a * b + c) % 1000000000 :: tms b l ((a * b + c) / 1000000000)
theorem cars_pos (c : Nat) (h : 0 < c) : cars c = c % 1000000000 :: cars (c / 1000000000) := by rw [cars]; simp [h]
theorem cars_zero : cars 0 = [] := by rw [cars]; simp
theorem cars_lv (c : Nat) : lv (cars c) = c := by
  induction c using Nat.strongRecOn with
  | _ c ih =>
    by_cases h : 0 < c
    · rw [cars_pos c h]
      simp only [lv]
      rw [ih _ (Nat.div_lt_self h (by decide))]
      omega
    · have : c = 0 := by omega
      subst this
      rw [cars_zero]; rfl
theorem cars_lt (c : Nat) : ∀ x ∈ cars c, x < 1000000000 := by
  induction c using Nat.strongRecOn with
  | _ c ih =>
    by_cases h : 0 < c
    · rw [cars_pos c h]
      intro x hx
      rcases List.mem_cons.1 hx with rfl | hx
      · omega
      · exact ih _ (Nat.div_lt_self h (by decide)) x hx
    · have : c = 0 := by omega
      subst this
      rw [cars_zero]; intro x hx; cases hx
theorem tms_lv (b : Nat) (l : List Nat) : ∀ c, lv (tms b l c) = lv l * b + c := by
  induction l with
  | nil => intro c; simp only [tms, lv]; rw [cars_lv]; omega
  | cons a l ih =>
    intro c
    simp only [tms, lv]
    rw [ih]
    have e : (a + 1000000000 * lv l) * b = a * b + 1000000000 * (lv l * b) := by rw [Nat.add_mul, Nat.mul_assoc]
    rw [e]
    generalize lv l * b = q
    generalize a * b = r
    omega
theorem tms_lt (b : Nat) (l : List Nat) : ∀ c, ∀ x ∈ tms b l c, x < 1000000000 := by
  induction l with
  | nil => intro c; exact cars_lt c
  | cons a l ih =>
    intro c x hx
    rcases List.mem_cons.1 hx with rfl | hx
    · omega
    · exact ih _ x hx
theorem cars_len (c : Nat) (h : c < 1000000000) : (cars c).length ≤ 1 := by
  by_cases h0 : 0 < c
  · rw [cars_pos c h0, Nat.div_eq_of_lt h, cars_zero]; exact Nat.le_refl 1
  · have : c = 0 := by omega
    subst this
    rw [cars_zero]; exact Nat.zero_le 1
theorem tms_len (b : Nat) (hb : b < 1000000000) (l : List Nat) (hl : ∀ x ∈ l, x < 1000000000) : ∀ c, c < 1000000000 → (tms b l c).length ≤ l.length + 1 := by
  induction l with
  | nil => intro c h; simpa [tms] using cars_len c h
  | cons a l ih =>
    intro c h
    simp only [tms, List.length_cons]
    have ha := hl a (List.mem_cons_self ..)
    have h1 : a * b ≤ 999999999 * b := Nat.mul_le_mul_right b (by omega)
    have := ih (fun x hx => hl x (List.mem_cons_of_mem _ hx)) ((a * b + c) / 1000000000) (by omega)
    omega
/-- The number that a row of decimal digits stands for, the highest first. -/
def dv : List Nat → Nat
  | [] => 0
  | x :: l => x * 10 ^ l.length + dv l
theorem dv_append (a b : List Nat) : dv (a ++ b) = dv a * 10 ^ b.length + dv b := by
  induction a with
  | nil => simp [dv]
  | cons x a ih =>
    simp only [List.cons_append, dv, ih, List.length_append]
    rw [Nat.add_mul, Nat.pow_add, Nat.mul_assoc, Nat.add_assoc]
theorem dv_lt (a : List Nat) (h : ∀ x ∈ a, x < 10) : dv a < 10 ^ a.length := by
  induction a with
  | nil => decide
  | cons x a ih =>
    simp only [dv, List.length_cons]
    have h1 := ih fun y hy => h y (List.mem_cons_of_mem _ hy)
    have h2 := h x (List.mem_cons_self ..)
    have h3 : x * 10 ^ a.length ≤ 9 * 10 ^ a.length := Nat.mul_le_mul_right _ (by omega)
    rw [Nat.pow_succ]
    omega
theorem dv_zeros (a : List Nat) (h : ∀ x ∈ a, x = 0) : dv a = 0 := by
  induction a with
  | nil => rfl
  | cons x a ih =>
    simp only [dv]
    rw [h x (List.mem_cons_self ..), ih fun y hy => h y (List.mem_cons_of_mem _ hy)]
    omega
def dig9 (a : Nat) : List Nat := [a / 100000000 % 10, a / 10000000 % 10, a / 1000000 % 10, a / 100000 % 10, a / 10000 % 10, a / 1000 % 10, a / 100 % 10, a / 10 % 10, a / 1 % 10]
theorem dig9_dv (a : Nat) (h : a < 1000000000) : dv (dig9 a) = a := by
  simp only [dig9, dv, List.length_cons, List.length_nil]
  omega
theorem dig9_lt (a : Nat) : ∀ x ∈ dig9 a, x < 10 := by
  intro x hx
  simp only [dig9, List.mem_cons, List.not_mem_nil, or_false] at hx
  omega
def digs : List Nat → List Nat
  | [] => []
  | a :: l => digs l ++ dig9 a
theorem digs_len (l : List Nat) : (digs l).length = 9 * l.length := by
  induction l with
  | nil => rfl
  | cons a l ih => simp only [digs, List.length_append, ih, List.length_cons]; simp [dig9]; omega
theorem digs_lt (l : List Nat) : ∀ x ∈ digs l, x < 10 := by
  induction l with
  | nil => intro x hx; cases hx
  | cons a l ih =>
    intro x hx
    rcases List.mem_append.1 hx with hx | hx
    · exact ih x hx
    · exact dig9_lt a x hx
theorem digs_dv (l : List Nat) (h : ∀ x ∈ l, x < 1000000000) : dv (digs l) = lv l := by
  induction l with
  | nil => rfl
  | cons a l ih =>
    simp only [digs, lv]
    rw [dv_append, ih fun y hy => h y (List.mem_cons_of_mem _ hy), dig9_dv a (h a (List.mem_cons_self ..))]
    simp [dig9]
    omega
/-- D and P are v times 10 to the p, with no nought in front. -/
def isDec (D : List Nat) (P : Int) (v : Nat) (p : Int) : Prop := (∀ x ∈ D, x < 10) ∧ (D = [] → v = 0) ∧ (∀ x l, D = x :: l → x ≠ 0 ∧ ∃ k : Nat, v = dv D * 10 ^ k ∧ P = D.length + k + p)
theorem trim_dec (ds : List Nat) (P : Int) (f t : Nat) (hd : ∀ x ∈ ds, x < 10) (h0 : ∀ x ∈ ds.take f, x = 0) (h1 : ∀ x, ds[f]? = some x → x ≠ 0) (hft : f ≤ t) (ht : t ≤ ds.length) (h2 : ∀ x ∈ ds.drop t, x = 0) : isDec ((ds.drop f).take (t - f)) (P - f) (dv ds) (P - ds.length) := by
  have e1 : ds = ds.take f ++ ((ds.drop f).take (t - f) ++ ds.drop t) := by
    have a := List.take_append_drop f ds
    have b := List.take_append_drop (t - f) (ds.drop f)
    rw [List.drop_drop, show f + (t - f) = t by omega] at b
    rw [b, a]
  have e2 : dv ds = dv ((ds.drop f).take (t - f)) * 10 ^ (ds.length - t) := by
    have : dv ds = dv (ds.take f ++ ((ds.drop f).take (t - f) ++ ds.drop t)) := by rw [← e1]
    rw [this, dv_append, dv_append, dv_zeros _ h0, dv_zeros _ h2, List.length_drop]
    omega
  have el : ((ds.drop f).take (t - f)).length = t - f := by
    rw [List.length_take, List.length_drop]; omega
  refine ⟨fun x hx => hd x (List.mem_of_mem_drop (List.mem_of_mem_take hx)), ?_, ?_⟩
  · intro e
    rw [e2, e]; simp [dv]
  · intro x l e
    refine ⟨?_, ds.length - t, e2, ?_⟩
    · apply h1
      have : ((ds.drop f).take (t - f))[0]? = some x := by rw [e]; rfl
      rw [List.getElem?_take] at this
      split at this
      · rw [List.getElem?_drop] at this; simpa using this
      · cases this
    · rw [el]; omega
/-- Which of two is greater. -/
def sc (a b : Nat) : Int := if a < b then -1 else if a = b then 0 else 1
/-- Which of two rows of digits is greater, with noughts behind the shorter. -/
def cmpL : List Nat → List Nat → Int
  | [], [] => 0
  | x :: a, [] => if x = 0 then cmpL a [] else 1
  | [], y :: b => if y = 0 then cmpL [] b else -1
  | x :: a, y :: b => if x = y then cmpL a b else if x < y then -1 else 1
theorem cmpL_nr (a : List Nat) : cmpL a [] = sc (dv a) 0 := by
  induction a with
  | nil => simp [cmpL, sc, dv]
  | cons x a ih =>
    simp only [cmpL, dv]
    split
    · next h => rw [ih, h]; simp
    · next h =>
      have : 0 < x * 10 ^ a.length := Nat.mul_pos (by omega) (Nat.pow_pos (by decide))
      unfold sc
      rw [if_neg (by omega), if_neg (by omega)]
theorem cmpL_nl (a : List Nat) : cmpL [] a = sc 0 (dv a) := by
  induction a with
  | nil => simp [cmpL, sc, dv]
  | cons x a ih =>
    simp only [cmpL, dv]
    split
    · next h => rw [ih, h]; simp
    · next h =>
      have : 0 < x * 10 ^ a.length := Nat.mul_pos (by omega) (Nat.pow_pos (by decide))
      unfold sc
      rw [if_pos (by omega)]
theorem sc_mul (a b c : Nat) (h : 0 < c) : sc (a * c) (b * c) = sc a b := by
  unfold sc
  have h1 : a * c < b * c ↔ a < b := Nat.mul_lt_mul_right h
  have h2 : a * c = b * c ↔ a = b := Nat.mul_right_cancel_iff h
  simp only [h1, h2]
theorem cmpL_sc (a : List Nat) : ∀ (b : List Nat) (N : Nat), (∀ x ∈ a, x < 10) → (∀ x ∈ b, x < 10) → a.length ≤ N → b.length ≤ N → cmpL a b = sc (dv a * 10 ^ (N - a.length)) (dv b * 10 ^ (N - b.length)) := by
  induction a with
  | nil =>
    intro b N _ _ _ _
    rw [cmpL_nl, ← sc_mul 0 (dv b) (10 ^ (N - b.length)) (Nat.pow_pos (by decide))]
    simp [dv]
  | cons x a ih =>
    intro b N ha hb hN hM
    cases b with
    | nil =>
      rw [cmpL_nr, ← sc_mul _ 0 (10 ^ (N - (x :: a).length)) (Nat.pow_pos (by decide))]
      simp [dv]
    | cons y b =>
      simp only [List.length_cons] at hN hM
      have ha' : ∀ z ∈ a, z < 10 := fun z hz => ha z (List.mem_cons_of_mem _ hz)
      have hb' : ∀ z ∈ b, z < 10 := fun z hz => hb z (List.mem_cons_of_mem _ hz)
      have I := ih b (N - 1) ha' hb' (by omega) (by omega)
      have e1 : dv (x :: a) * 10 ^ (N - (x :: a).length) = x * 10 ^ (N - 1) + dv a * 10 ^ (N - 1 - a.length) := by
        simp only [dv, List.length_cons]
        rw [Nat.add_mul, Nat.mul_assoc, ← Nat.pow_add, show a.length + (N - (a.length + 1)) = N - 1 by omega, show N - (a.length + 1) = N - 1 - a.length by omega]
      have e2 : dv (y :: b) * 10 ^ (N - (y :: b).length) = y * 10 ^ (N - 1) + dv b * 10 ^ (N - 1 - b.length) := by
        simp only [dv, List.length_cons]
        rw [Nat.add_mul, Nat.mul_assoc, ← Nat.pow_add, show b.length + (N - (b.length + 1)) = N - 1 by omega, show N - (b.length + 1) = N - 1 - b.length by omega]
      have up : ∀ c : List Nat, (∀ z ∈ c, z < 10) → c.length ≤ N - 1 → dv c * 10 ^ (N - 1 - c.length) < 10 ^ (N - 1) := by
        intro c hc hl
        have := Nat.mul_lt_mul_of_pos_right (dv_lt c hc) (Nat.pow_pos (n := N - 1 - c.length) (show 0 < 10 by decide))
        rwa [← Nat.pow_add, show c.length + (N - 1 - c.length) = N - 1 by omega] at this
      have u1 := up a ha' (by omega)
      have u2 := up b hb' (by omega)
      rw [e1, e2]
      simp only [cmpL]
      split
      · next h =>
        subst h
        rw [I]
        unfold sc
        generalize x * 10 ^ (N - 1) = q
        simp only [Nat.add_lt_add_iff_left, Nat.add_left_cancel_iff]
      · next h =>
        generalize dv a * 10 ^ (N - 1 - a.length) = p at *
        generalize dv b * 10 ^ (N - 1 - b.length) = q at *
        split
        · next h' =>
          have : (x + 1) * 10 ^ (N - 1) ≤ y * 10 ^ (N - 1) := Nat.mul_le_mul_right _ h'
          rw [Nat.add_mul] at this
          unfold sc
          rw [if_pos (by omega)]
        · next h' =>
          have : (y + 1) * 10 ^ (N - 1) ≤ x * 10 ^ (N - 1) := Nat.mul_le_mul_right _ (by omega)
          rw [Nat.add_mul] at this
          unfold sc
          rw [if_neg (by omega), if_neg (by omega)]
/-- What Compare says of two. -/
def cmpD (a : List Nat) (P : Int) (b : List Nat) (Q : Int) : Int := if a.length = 0 ∨ b.length = 0 then (min 1 a.length : Nat) - (min 1 b.length : Nat) else if P ≠ Q then (if P < Q then -1 else 1) else cmpL a b
theorem dv_ge (x : Nat) (l : List Nat) (h : x ≠ 0) : 10 ^ l.length ≤ dv (x :: l) := by
  simp only [dv]
  have : 1 * 10 ^ l.length ≤ x * 10 ^ l.length := Nat.mul_le_mul_right _ (by omega)
  omega
theorem cmpD_sc (D E : List Nat) (P Q : Int) (v u : Nat) (p q : Int) (i j : Nat) (hD : isDec D P v p) (hE : isDec E Q u q) (hij : (i : Int) - p = (j : Int) - q) : cmpD D P E Q = sc (v * 10 ^ i) (u * 10 ^ j) := by
  obtain ⟨d1, d2, d3⟩ := hD
  obtain ⟨e1, e2, e3⟩ := hE
  unfold cmpD
  have T : ∀ n : Nat, 0 < 10 ^ n := fun n => Nat.pow_pos (by decide)
  cases D with
  | nil =>
    rw [if_pos (by simp), d2 rfl]
    cases E with
    | nil => rw [e2 rfl]; simp [sc]
    | cons y b =>
      obtain ⟨y0, k, hu, hQ⟩ := e3 y b rfl
      have h1 := dv_ge y b y0
      have h2 := T b.length
      have : 0 < u * 10 ^ j := by rw [hu]; exact Nat.mul_pos (Nat.mul_pos (by omega) (T k)) (T j)
      unfold sc
      rw [if_pos (by omega)]
      simp only [List.length_cons, List.length_nil]
      omega
  | cons x a =>
    obtain ⟨x0, k, hv, hP⟩ := d3 x a rfl
    have g1 := dv_ge x a x0
    have g2 := T a.length
    have g3 : 0 < v * 10 ^ i := by rw [hv]; exact Nat.mul_pos (Nat.mul_pos (by omega) (T k)) (T i)
    cases E with
    | nil =>
      rw [if_pos (by simp), e2 rfl]
      unfold sc
      rw [if_neg (by omega), if_neg (by omega)]
      simp only [List.length_cons, List.length_nil]
      omega
    | cons y b =>
      obtain ⟨y0, m, hu, hQ⟩ := e3 y b rfl
      have l1 := dv_ge y b y0
      rw [if_neg (by simp)]
      have s1 : v * 10 ^ i = dv (x :: a) * 10 ^ (k + i) := by rw [hv, Nat.mul_assoc, ← Nat.pow_add]
      have s2 : u * 10 ^ j = dv (y :: b) * 10 ^ (m + j) := by rw [hu, Nat.mul_assoc, ← Nat.pow_add]
      have lo : ∀ (z : Nat) (c : List Nat) (n : Nat), z ≠ 0 → 10 ^ (c.length + n) ≤ dv (z :: c) * 10 ^ n := by
        intro z c n hz
        rw [Nat.pow_add]; exact Nat.mul_le_mul_right _ (dv_ge z c hz)
      have up : ∀ (c : List Nat) (n : Nat), (∀ z ∈ c, z < 10) → dv c * 10 ^ n < 10 ^ (c.length + n) := by
        intro c n hc
        rw [Nat.pow_add]; exact Nat.mul_lt_mul_of_pos_right (dv_lt c hc) (T n)
      simp only [List.length_cons] at hP hQ
      split
      · next hne =>
        split
        · next hlt =>
          have h1 := up (x :: a) (k + i) d1
          have h2 := lo y b (m + j) y0
          have h3 : 10 ^ ((x :: a).length + (k + i)) ≤ 10 ^ (b.length + (m + j)) := Nat.pow_le_pow_right (by decide) (by simp only [List.length_cons]; omega)
          unfold sc
          rw [if_pos (by omega)]
        · next hlt =>
          have h1 := up (y :: b) (m + j) e1
          have h2 := lo x a (k + i) x0
          have h3 : 10 ^ ((y :: b).length + (m + j)) ≤ 10 ^ (a.length + (k + i)) := Nat.pow_le_pow_right (by decide) (by simp only [List.length_cons]; omega)
          unfold sc
          rw [if_neg (by omega), if_neg (by omega)]
      · next heq =>
        rw [s1, s2]
        have hN : a.length + 1 + (k + i) = b.length + 1 + (m + j) := by omega
        rw [cmpL_sc (x :: a) (y :: b) (a.length + 1 + (k + i)) d1 e1 (by simp only [List.length_cons]; omega) (by simp only [List.length_cons]; omega)]
        simp only [List.length_cons]
        rw [show a.length + 1 + (k + i) - (a.length + 1) = k + i by omega, show a.length + 1 + (k + i) - (b.length + 1) = m + j by omega]
/-- m times 2 to the -e against half of o. -/
theorem half_sc (m o e : Nat) (he : 1 ≤ e) : sc (m * 5 ^ e * 10 ^ 0) (o * 5 ^ 1 * 10 ^ (e - 1)) = sc (2 * m) (o * 2 ^ e) := by
  obtain ⟨f, rfl⟩ : ∃ f, e = f + 1 := ⟨e - 1, by omega⟩
  have h : o * 5 ^ 1 * 10 ^ (f + 1 - 1) = o * 2 ^ f * 5 ^ (f + 1) := by
    rw [Nat.add_sub_cancel, show (10 : Nat) = 2 * 5 from rfl, Nat.mul_pow, Nat.pow_succ 5 f]
    simp only [Nat.mul_comm, Nat.mul_left_comm, Nat.mul_assoc, Nat.pow_one]
  rw [h, Nat.pow_zero, Nat.mul_one, sc_mul _ _ _ (Nat.pow_pos (by decide))]
  rw [← sc_mul m (o * 2 ^ f) 2 (by decide), Nat.mul_comm m 2, Nat.pow_succ, Nat.mul_assoc]
end Go.Proofs.Ytclahchmdcgdhaa
