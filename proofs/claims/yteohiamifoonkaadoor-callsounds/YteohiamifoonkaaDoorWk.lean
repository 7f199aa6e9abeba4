import Derived.Test.YteohiamifoonkaaDoorWj
import Derived.LoopTactic
namespace Go.Proofs.YteohiamifoonkaaDoor
open Go.RowKit Go.Shelf

theorem nums_inj {s t : ByteArray} (h : nums s = nums t) : s = t := by
  have h1 : s.data.toList = t.data.toList := by
    have h2 := congrArg (List.map UInt8.ofNat) h
    unfold nums at h2
    simpa [List.map_map, Function.comp_def] using h2
  cases s; cases t
  simp only [ByteArray.mk.injEq]
  exact Array.toList_inj.1 h1
theorem toList_inj {s t : ByteArray} (h : s.toList = t.toList) : s = t := by
  rw [Lib.toList_data, Lib.toList_data] at h
  cases s; cases t
  simp only [ByteArray.mk.injEq]
  exact Array.toList_inj.1 h
theorem reads_own {w : World} {B : Nat} {v : Value} {l : List Nat} (h : w.ownsRow B 77 1 v l.length (l.map u16v)) : Reads w v l := by
  rcases h.2 with ⟨rfl, h0⟩ | ⟨g, cap, cur, rfl, hBg, hgb, hnc, hcm, hcs, htk⟩
  · exact .inl ⟨none, 0, rfl, List.length_eq_zero_iff.1 h0⟩
  · refine .inr ⟨g, 0, cap, rfl, (Array.getElem?_eq_some_iff.1 hgb).1, fun i hi => ?_⟩
    rw [Nat.zero_add, h.cellAt i (by omega), List.getElem?_map, List.getElem?_eq_getElem hi, List.getD_eq_getElem?_getD, List.getElem?_eq_getElem hi]
    rfl
theorem owns_below {w w' : World} {B : Nat} {e : TypeId} {size n : Nat} {v : Value} {xs : List Value} (h : w.ownsRow B e size v n xs) (hb : Below w.heap.size w w') : w'.ownsRow B e size v n xs :=
  h.kept (grown_of_below hb) (by
    cases hv : v.ownBlock with
    | none => exact .inl rfl
    | some g => exact .inr (by simp))
theorem owns_base {w : World} {B B' : Nat} {e : TypeId} {size n : Nat} {v : Value} {xs : List Value} (h : w.ownsRow B e size v n xs) (hb : B' ≤ B) : w.ownsRow B' e size v n xs := by
  obtain ⟨h1, h2 | ⟨g, cap, cur, e1, e2, e3⟩⟩ := h
  · exact ⟨h1, .inl h2⟩
  · exact ⟨h1, .inr ⟨g, cap, cur, e1, Nat.le_trans hb e2, e3⟩⟩
theorem rdL_small (s : ByteArray) : ∀ x ∈ rdL s, x < 65536 := by
  unfold rdL
  cases h : M.rd (nums s) with
  | none => simp
  | some u => simpa using M.rd_small _ _ u (Nat.le_refl _) h
theorem rd1_tail {l : List Nat} {c n : Nat} (h : M.rd1 l = some (c, n)) : 1 + n ≤ l.length ∧ (M.U c).length ≤ 1 + n := by
  unfold M.rd1 at h
  split at h
  · simp at h
  · split at h
    · simp at h
    · rename_i b t n' base hh
      split at h
      · simp at h
      · rename_i d htl
        split at h
        · simp at h
        · simp only [Option.some.injEq, Prod.mk.injEq] at h
          obtain ⟨h1, h2⟩ := h
          have := tail_len _ _ _ _ htl
          have hb := tail_bound _ _ _ _ htl
          subst h2
          refine ⟨by simp; omega, ?_⟩
          have hUl := U_len c
          cases n' with
          | zero =>
            have hb0 : base < 128 := by
              unfold M.head at hh
              repeat' split at hh
              all_goals simp at hh
              omega
            simp at hb h1
            have : c < 65536 := by omega
            unfold M.U; rw [if_pos this]; simp
          | succ m => omega
theorem rd_len : ∀ (n : Nat) (l u : List Nat), l.length ≤ n → M.rd l = some u → u.length ≤ l.length := by
  intro n
  induction n with
  | zero =>
    intro l u hl h
    have : l = [] := List.eq_nil_of_length_eq_zero (by omega)
    subst this
    rw [M.rd_nil] at h; cases h; simp
  | succ n ih =>
    intro l u hl h
    by_cases hne : l = []
    · subst hne; rw [M.rd_nil] at h; cases h; simp
    · rw [M.rd_step l hne] at h
      have hl0 : 0 < l.length := List.length_pos_iff.2 hne
      cases h1 : M.rd1 l with
      | none => rw [h1] at h; simp at h
      | some p =>
        obtain ⟨c, k⟩ := p
        rw [h1] at h
        simp only [Option.map_eq_some_iff] at h
        obtain ⟨v, hv, rfl⟩ := h
        have := ih _ v (by simp; omega) hv
        have := rd1_tail h1
        simp only [List.length_append, List.length_drop] at *; omega
theorem rdL_len (s : ByteArray) : (rdL s).length ≤ s.size := by
  unfold rdL
  cases h : M.rd (nums s) with
  | none => simp
  | some u => have := rd_len _ _ u (Nat.le_refl _) h; rw [nums_len] at this; simpa using this

def vS (s : ByteArray) : Bool := M.valid false (nums s)
def unS (s : ByteArray) : List Nat := if vS s then rdL s else []
def erS (s : ByteArray) : Int := if vS s then 0 else 10

set_option maxHeartbeats 1000000 in
set_option maxRecDepth 100000 in
theorem refValid_any (s : ByteArray) (hsz : s.size ≤ 1099511627776) (w : World) :
    Calls Tryd.prog 16 #[.string s] w fun e w' => e = .returned (.bool (vS s)) ∧ Below w.heap.size w w' := by
  have hr := read_any s hsz w
  have hl := rdL_len s
  have hv : rdB s = false ∧ vS s = false ∨ rdB s = true ∧ ((vS s = true ∧ M.ofL (rdL s) = nums s) ∨ (vS s = false ∧ M.ofL (rdL s) ≠ nums s)) := by
    unfold rdB rdL vS
    rcases M.valid_ref (nums s) (nums_lt s) with ⟨h1, u, h2, h3, _⟩ | ⟨h1, h2⟩
    · right; rw [h1, h2]; exact ⟨rfl, .inl ⟨rfl, h3⟩⟩
    · cases h : M.rd (nums s) with
      | none => left; exact ⟨rfl, h1⟩
      | some u => right; exact ⟨rfl, .inr ⟨h1, h2 u h⟩⟩
  have hsm := rdL_small s
  have HOF := hide (fun (v : Value) (w : World) (h : Reads w v (rdL s)) => refOf_any v (rdL s) hsm (by omega) w h)
  have HR := hide hr; clear hr hsm
  generalize hrb : rdB s = rb at *
  have HRB := hide hrb; clear hrb
  rcases hv with ⟨h1, h2⟩ | ⟨h1, hv⟩
  · subst h1
    rw [h2]; clear h2
    go_enter Tryd.func16, Tryd.ntmps16
    go_wp2_with fail
    refine (unhide HR).mono ?_
    rintro e w1 ⟨v, rfl, hown, hb⟩
    go_wp2
    go_ret
    exact ⟨rfl, hb⟩
  · subst h1
    go_enter Tryd.func16, Tryd.ntmps16
    go_wp2_with fail
    refine (unhide HR).mono ?_
    rintro e w1 ⟨v, rfl, hown, hb⟩
    have hrd := reads_own hown
    have HV := hide hv; clear hv
    go_wp2_with fail
    refine (unhide HOF v w1 hrd).mono ?_
    rintro e w2 ⟨t, rfl, ht, hb2⟩
    rcases unhide HV with ⟨h2, h3⟩ | ⟨h2, h3⟩
    · have hts : t = s := nums_inj (ht.trans h3)
      subst hts
      have H2 := hide h2
      clear h2 h3 ht HV
      go_wp2
      go_ret
      refine ⟨?_, hb.trans (hb2.mono hb.size)⟩
      rw [unhide H2]
      simp
    · have hts : t ≠ s := by intro e; subst e; exact h3 ht.symm
      have H2 := hide h2
      have HTS := hide hts
      clear h2 h3 ht HV hts
      go_wp2
      go_ret
      refine ⟨?_, hb.trans (hb2.mono hb.size)⟩
      rw [unhide H2]
      simp
      exact fun e => unhide HTS (toList_inj e)
theorem reads_open {w : World} {v : Value} {l : List Nat} (hR : Reads w v l) : ∃ A cap, v = .slice A l.length cap ∧ (∀ i, i < l.length → ∃ b off, A = some ⟨b, off, none⟩ ∧ b < w.heap.size ∧ w.cell? ⟨b, off + i, none⟩ = some (.int .u16 (l.getD i 0 : Nat))) := by
  rcases hR with ⟨A, c, rfl, rfl⟩ | ⟨b, off, cap, rfl, hlt, hc⟩
  · exact ⟨A, c, rfl, fun i hi => by simp at hi⟩
  · exact ⟨_, _, rfl, fun i hi => ⟨b, off, rfl, hlt, hc i hi⟩⟩
end Go.Proofs.YteohiamifoonkaaDoor
