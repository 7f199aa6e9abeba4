import Derived.Test.YtpbdidnphkkenaaGreatDoorQd
import Derived.Laws.OwnMore
import Derived.Laws.MakeOwn
set_option linter.all false
namespace Go.Proofs.YtpbdidnphkkenaaGreatDoor
section
open Go.RowKit Go.Shelf
theorem nums_inj {s t : ByteArray} (h : nums s = nums t) : s = t := by
  have h1 : s.data.toList = t.data.toList := by
    have h2 := congrArg (List.map UInt8.ofNat) h
    unfold nums at h2
    simpa [List.map_map, Function.comp_def] using h2
  cases s; cases t
  simp only [ByteArray.mk.injEq]
  exact Array.toList_inj.1 h1
theorem toList_inj {s t : ByteArray} (h : s.toList = t.toList) : s = t := by
  rw [Lib.toList_data, Lib.toList_data] at h
  cases s; cases t
  simp only [ByteArray.mk.injEq]
  exact Array.toList_inj.1 h
theorem reads_own {w : World} {B : Nat} {v : Value} {l : List Nat} (h : w.ownsRow B 132 1 v l.length (l.map u16v)) : Reads w v l := by
  rcases h.2 with ⟨rfl, h0⟩ | ⟨g, cap, cur, rfl, hBg, hgb, hnc, hcm, hcs, htk⟩
  · exact .inl ⟨none, 0, rfl, List.length_eq_zero_iff.1 h0⟩
  · refine .inr ⟨g, 0, cap, rfl, (Array.getElem?_eq_some_iff.1 hgb).1, fun i hi => ?_⟩
    rw [Nat.zero_add, h.cellAt i (by omega), List.getElem?_map, List.getElem?_eq_getElem hi, List.getD_eq_getElem?_getD, List.getElem?_eq_getElem hi]
    rfl
theorem owns_base {w : World} {B B' : Nat} {e : TypeId} {size n : Nat} {v : Value} {xs : List Value} (h : w.ownsRow B e size v n xs) (hb : B' ≤ B) : w.ownsRow B' e size v n xs := by
  obtain ⟨h1, h2 | ⟨g, cap, cur, e1, e2, e3⟩⟩ := h
  · exact ⟨h1, .inl h2⟩
  · exact ⟨h1, .inr ⟨g, cap, cur, e1, Nat.le_trans hb e2, e3⟩⟩
theorem rdL_small (s : ByteArray) : ∀ x ∈ rdL s, x < 65536 := by
  unfold rdL
  cases h : M.rd (nums s) with
  | none => simp
  | some u => simpa using M.rd_small _ _ u (Nat.le_refl _) h
theorem rd1_tail {l : List Nat} {c n : Nat} (h : M.rd1 l = some (c, n)) : 1 + n ≤ l.length ∧ (M.U c).length ≤ 1 + n := by
  unfold M.rd1 at h
  split at h
  · simp at h
  · split at h
    · simp at h
    · rename_i b t n' base hh
      split at h
      · simp at h
      · rename_i d htl
        split at h
        · simp at h
        · simp only [Option.some.injEq, Prod.mk.injEq] at h
          obtain ⟨h1, h2⟩ := h
          have := tail_len _ _ _ _ htl
          have hb := tail_bound _ _ _ _ htl
          subst h2
          refine ⟨by simp; omega, ?_⟩
          have hUl := U_len c
          cases n' with
          | zero =>
            have hb0 : base < 128 := by
              unfold M.head at hh
              repeat' split at hh
              all_goals simp at hh
              omega
            simp at hb h1
            have : c < 65536 := by omega
            unfold M.U; rw [if_pos this]; simp
          | succ m => omega
theorem rd_len : ∀ (n : Nat) (l u : List Nat), l.length ≤ n → M.rd l = some u → u.length ≤ l.length := by
  intro n
  induction n with
  | zero =>
    intro l u hl h
    have : l = [] := List.eq_nil_of_length_eq_zero (by omega)
    subst this
    rw [M.rd_nil] at h; cases h; simp
  | succ n ih =>
    intro l u hl h
    by_cases hne : l = []
    · subst hne; rw [M.rd_nil] at h; cases h; simp
    · rw [M.rd_step l hne] at h
      have hl0 : 0 < l.length := List.length_pos_iff.2 hne
      cases h1 : M.rd1 l with
      | none => rw [h1] at h; simp at h
      | some p =>
        obtain ⟨c, k⟩ := p
        rw [h1] at h
        simp only [Option.map_eq_some_iff] at h
        obtain ⟨v, hv, rfl⟩ := h
        have := ih _ v (by simp; omega) hv
        have := rd1_tail h1
        simp only [List.length_append, List.length_drop] at *; omega
theorem rdL_len (s : ByteArray) : (rdL s).length ≤ s.size := by
  unfold rdL
  cases h : M.rd (nums s) with
  | none => simp
  | some u => have := rd_len _ _ u (Nat.le_refl _) h; rw [nums_len] at this; simpa using this

def vS (s : ByteArray) : Bool := M.valid false (nums s)
def unS (s : ByteArray) : List Nat := if vS s then rdL s else []
def erS (s : ByteArray) : Int := if vS s then 0 else 10

set_option maxHeartbeats 1000000 in
set_option maxRecDepth 100000 in
theorem refValid_any (s : ByteArray) (hsz : s.size ≤ 1099511627776) (w : World) :
    Calls Tryz.prog 47 #[.string s] w fun e w' => e = .returned (.bool (vS s)) ∧ Below w.heap.size w w' := by
  have hr := read_any s hsz w
  have hl := rdL_len s
  have hv : rdB s = false ∧ vS s = false ∨ rdB s = true ∧ ((vS s = true ∧ M.ofL (rdL s) = nums s) ∨ (vS s = false ∧ M.ofL (rdL s) ≠ nums s)) := by
    unfold rdB rdL vS
    rcases M.valid_ref (nums s) (nums_lt s) with ⟨h1, u, h2, h3, _⟩ | ⟨h1, h2⟩
    · right; rw [h1, h2]; exact ⟨rfl, .inl ⟨rfl, h3⟩⟩
    · cases h : M.rd (nums s) with
      | none => left; exact ⟨rfl, h1⟩
      | some u => right; exact ⟨rfl, .inr ⟨h1, h2 u h⟩⟩
  have hsm := rdL_small s
  have HOF := hide (fun (v : Value) (w : World) (h : Reads w v (rdL s)) => refOf_any v (rdL s) hsm (by omega) w h)
  have HR := hide hr; clear hr hsm
  generalize hrb : rdB s = rb at *
  have HRB := hide hrb; clear hrb
  rcases hv with ⟨h1, h2⟩ | ⟨h1, hv⟩
  · subst h1
    rw [h2]; clear h2
    go_enter Tryz.func47, Tryz.ntmps47
    go_wp2_with fail
    refine (unhide HR).mono ?_
    rintro e w1 ⟨v, rfl, hown, hb⟩
    go_wp2
    go_ret
    exact ⟨rfl, hb⟩
  · subst h1
    go_enter Tryz.func47, Tryz.ntmps47
    go_wp2_with fail
    refine (unhide HR).mono ?_
    rintro e w1 ⟨v, rfl, hown, hb⟩
    have hrd := reads_own hown
    have HV := hide hv; clear hv
    go_wp2_with fail
    refine (unhide HOF v w1 hrd).mono ?_
    rintro e w2 ⟨t, rfl, ht, hb2⟩
    rcases unhide HV with ⟨h2, h3⟩ | ⟨h2, h3⟩
    · have hts : t = s := nums_inj (ht.trans h3)
      subst hts
      have H2 := hide h2
      clear h2 h3 ht HV
      go_wp2
      go_ret
      refine ⟨?_, hb.trans (hb2.mono hb.size)⟩
      rw [unhide H2]
      simp
    · have hts : t ≠ s := by intro e; subst e; exact h3 ht.symm
      have H2 := hide h2
      have HTS := hide hts
      clear h2 h3 ht HV hts
      go_wp2
      go_ret
      refine ⟨?_, hb.trans (hb2.mono hb.size)⟩
      rw [unhide H2]
      simp
      exact fun e => unhide HTS (toList_inj e)
set_option maxHeartbeats 1000000 in
set_option maxRecDepth 100000 in
theorem refUnits_any (s : ByteArray) (hsz : s.size ≤ 1099511627776) (w : World) :
    Calls Tryz.prog 78 #[.string s] w fun e w' => ∃ v, e = .returned (.tuple #[v, .int .i64 (erS s)]) ∧ w'.ownsRow w.heap.size 132 1 v (unS s).length ((unS s).map u16v) ∧ Below w.heap.size w w' := by
  have hva := refValid_any s hsz w
  have HR := hide (fun w => read_any s hsz w)
  unfold unS erS
  generalize vS s = b at *
  have HVA := hide hva; clear hva
  cases b with
  | false =>
    go_enter Tryz.func78, Tryz.ntmps78
    go_wp2_with fail
    refine (unhide HVA).mono ?_
    rintro e w1 ⟨rfl, hb⟩
    go_wp2
    go_ret2
    exact ⟨_, rfl, World.ownsRow_nil _ _ _ _, hb⟩
  | true =>
    go_enter Tryz.func78, Tryz.ntmps78
    go_wp2_with fail
    refine (unhide HVA).mono ?_
    rintro e w1 ⟨rfl, hb⟩
    go_wp2_with fail
    refine (unhide HR w1).mono ?_
    rintro e w2 ⟨v, rfl, hown, hb2⟩
    go_wp2
    go_ret2
    exact ⟨_, rfl, owns_base hown hb.size, hb.trans (hb2.mono hb.size)⟩
theorem reads_open {w : World} {v : Value} {l : List Nat} (hR : Reads w v l) : ∃ A cap, v = .slice A l.length cap ∧ (∀ i, i < l.length → ∃ b off, A = some ⟨b, off, none⟩ ∧ b < w.heap.size ∧ w.cell? ⟨b, off + i, none⟩ = some (.int .u16 (l.getD i 0 : Nat))) := by
  rcases hR with ⟨A, c, rfl, rfl⟩ | ⟨b, off, cap, rfl, hlt, hc⟩
  · exact ⟨A, c, rfl, fun i hi => by simp at hi⟩
  · exact ⟨_, _, rfl, fun i hi => ⟨b, off, rfl, hlt, hc i hi⟩⟩
end
section
open Go.RowKit Go.Shelf
namespace M
/-- The order of two rows. -/
def cmpL : List Nat → List Nat → Int
  | [], [] => 0
  | [], _ :: _ => -1
  | _ :: _, [] => 1
  | a :: r, b :: q => if a < b then -1 else if b < a then 1 else cmpL r q

end M
theorem unS_len (s : ByteArray) : (unS s).length ≤ s.size := by
  unfold unS; split
  · exact rdL_len s
  · simp
theorem erS_ok' {s : ByteArray} (h : vS s = true) : erS s = 0 := by unfold erS; rw [h]; rfl
theorem erS_bad' {s : ByteArray} (h : vS s = false) : erS s = 10 := by unfold erS; rw [h]; rfl
def okC' (a b : ByteArray) : Bool := vS a && vS b
def cmI (a b : ByteArray) : Int := if okC' a b then M.cmpL (unS a) (unS b) else 0
def cmE (a b : ByteArray) : Int := if okC' a b then 0 else 10
set_option maxHeartbeats 2000000 in
set_option maxRecDepth 100000 in
theorem refCompare_any (a b : ByteArray) (hsa : a.size ≤ 1099511627776) (hsb : b.size ≤ 1099511627776) (w : World) :
    Calls Tryz.prog 65 #[.string a, .string b] w fun e w' => e = .returned (.tuple #[.int .i64 (cmI a b), .int .i64 (cmE a b)]) ∧ Below w.heap.size w w' := by
  have hua := refUnits_any a hsa w
  have HUB := hide (fun w => refUnits_any b hsb w)
  have hla := unS_len a; have hlb := unS_len b
  have hok : vS a = true → vS b = true → cmI a b = M.cmpL (unS a) (unS b) ∧ cmE a b = 0 := fun h h' => by unfold cmI cmE okC'; rw [h, h']; exact ⟨rfl, rfl⟩
  have hbad : (vS a && vS b) = false → cmI a b = 0 ∧ cmE a b = 10 := fun h => by unfold cmI cmE okC'; rw [h]; exact ⟨rfl, rfl⟩
  have ea := @erS_ok' a; have eb := @erS_ok' b; have ea' := @erS_bad' a; have eb' := @erS_bad' b
  generalize cmI a b = CI at *
  generalize cmE a b = CE at *
  generalize unS a = la at *
  generalize unS b = lb at *
  generalize erS a = xa at *
  generalize erS b = xb at *
  generalize vS a = va at *
  generalize vS b = vb at *
  have HUA := hide hua; clear hua
  cases va with
  | false =>
    obtain ⟨rfl, rfl⟩ := hbad rfl
    obtain rfl := ea' rfl
    clear hbad hok ea ea' eb eb'
    go_enter Tryz.func65, Tryz.ntmps65
    go_wp2_with fail
    refine (unhide HUA).mono ?_
    rintro e w1 ⟨v1, rfl, hown1, hb1⟩
    go_wp2_with fail
    refine (unhide HUB w1).mono ?_
    rintro e w2 ⟨v2, rfl, hown2, hb2⟩
    go_wp2
    go_ret2
    exact ⟨rfl, hb1.trans (hb2.mono hb1.size)⟩
  | true =>
    obtain rfl := ea rfl
    cases vb with
    | false =>
      obtain ⟨rfl, rfl⟩ := hbad rfl
      obtain rfl := eb' rfl
      clear hbad hok ea ea' eb eb'
      go_enter Tryz.func65, Tryz.ntmps65
      go_wp2_with fail
      refine (unhide HUA).mono ?_
      rintro e w1 ⟨v1, rfl, hown1, hb1⟩
      go_wp2_with fail
      refine (unhide HUB w1).mono ?_
      rintro e w2 ⟨v2, rfl, hown2, hb2⟩
      go_wp2
      go_ret2
      exact ⟨rfl, hb1.trans (hb2.mono hb1.size)⟩
    | true =>
      obtain rfl := eb rfl
      obtain ⟨rfl, rfl⟩ := hok rfl rfl
      clear hbad hok ea ea' eb eb'
      go_enter Tryz.func65, Tryz.ntmps65
      go_wp2_with fail
      refine (unhide HUA).mono ?_
      rintro e w1 ⟨v1, rfl, hown1, hb1⟩
      go_wp2_with fail
      refine (unhide HUB w1).mono ?_
      rintro e w2 ⟨v2, rfl, hown2, hb2⟩
      have hB2 := hb1.trans (hb2.mono hb1.size)
      obtain ⟨A, ca, rfl, hA⟩ := reads_open ((reads_own hown1).same hb2)
      obtain ⟨B, cb, rfl, hB⟩ := reads_open (reads_own hown2)
      have HA := hide hA; have HB := hide hB; clear hA hB
      go_wp2
      go_loopw [10] (fun i wr => ∃ (k n : Nat), i = .int .i64 (k : Nat) ∧ k ≤ la.length ∧ k ≤ lb.length ∧ M.cmpL la lb = M.cmpL (la.drop k) (lb.drop k) ∧ wr = w2.drewN n) (fun i _ => la.length - (intOf i).toNat)
      case atStart => exact ⟨0, 0, rfl, by omega, by omega, rfl, rfl⟩
      case round =>
        obtain ⟨k, n, rfl, hk, hkb, hc, rfl⟩ := hrel
        have HC := hide hc; clear hc
        have hBn : ∀ m, Below w.heap.size w (w2.drewN m) := fun m => hB2.trans (below_drewN' _ _ _)
        have HBN := hide hBn; clear hBn
        by_cases hlt : k < la.length ∧ k < lb.length
        · obtain ⟨h1, h2⟩ := hlt
          have h1' : (k : Int) < (la.length : Int) := by omega
          have h2' : (k : Int) < (lb.length : Int) := by omega
          have hk0 : (0 : Int) ≤ (k : Int) := by omega
          obtain ⟨b, off, rfl, _, hca⟩ := unhide HA k h1
          obtain ⟨b', off', rfl, _, hcb⟩ := unhide HB k h2
          have HDA := hide (drop_getD la k h1)
          have HDB := hide (drop_getD lb k h2)
          generalize la.getD k 0 = x at *
          generalize lb.getD k 0 = y at *
          have hst : M.cmpL la lb = if x < y then -1 else if y < x then 1 else M.cmpL (la.drop (k + 1)) (lb.drop (k + 1)) := by
            rw [unhide HC, unhide HDA, unhide HDB]; rfl
          have HST := hide hst; clear hst
          by_cases c1 : x < y
          · have c1' : (x : Int) < (y : Int) := by omega
            go_wp2
            go_quiet (fail)
            go_wp2
            go_ret2
            refine ⟨?_, hB2.trans ((below_drewN' _ _ _).trans (below_drewN' _ _ _))⟩
            rw [unhide HST, if_pos c1]; rfl
          · by_cases c2 : y < x
            · have c1' : ¬ (x : Int) < (y : Int) := by omega
              have c2' : (y : Int) < (x : Int) := by omega
              go_wp2
              go_quiet (fail)
              go_wp2
              go_quiet (fail)
              go_wp2
              go_ret2
              refine ⟨?_, hB2.trans ((below_drewN' _ _ _).trans ((below_drewN' _ _ _).trans (below_drewN' _ _ _)))⟩
              rw [unhide HST, if_neg c1, if_pos c2]; rfl
            · have c1' : ¬ (x : Int) < (y : Int) := by omega
              have c2' : ¬ (y : Int) < (x : Int) := by omega
              go_wp2
              go_quiet (fail)
              go_wp2
              go_quiet (fail)
              go_wp2
              refine ⟨⟨k + 1, _, by go_num, by omega, by omega, by rw [unhide HST, if_neg c1, if_neg c2], rfl⟩, by simp [intOf]; omega⟩
        · by_cases h1 : k < la.length
          · have h1' : (k : Int) < (la.length : Int) := by omega
            have h2' : ¬ (k : Int) < (lb.length : Int) := by omega
            have h3 : ¬ (la.length : Int) < (lb.length : Int) := by omega
            have h4 : (lb.length : Int) < (la.length : Int) := by omega
            have hfin : M.cmpL la lb = 1 := by rw [unhide HC, List.drop_of_length_le (by omega : lb.length ≤ k), drop_getD la k h1]; rfl
            have HF := hide hfin; clear hfin hlt
            go_wp2
            go_ret2
            refine ⟨?_, hB2.trans (below_drewN' _ _ _)⟩
            rw [unhide HF]; rfl
          · have h1' : ¬ (k : Int) < (la.length : Int) := by omega
            by_cases h2 : k < lb.length
            · have h3 : (la.length : Int) < (lb.length : Int) := by omega
              have hfin : M.cmpL la lb = -1 := by rw [unhide HC, List.drop_of_length_le (by omega : la.length ≤ k), drop_getD lb k h2]; rfl
              have HF := hide hfin; clear hfin hlt
              go_wp2
              go_ret2
              refine ⟨?_, hB2.trans (below_drewN' _ _ _)⟩
              rw [unhide HF]; rfl
            · have h3 : ¬ (la.length : Int) < (lb.length : Int) := by omega
              have h4 : ¬ (lb.length : Int) < (la.length : Int) := by omega
              have hfin : M.cmpL la lb = 0 := by rw [unhide HC, List.drop_of_length_le (by omega : la.length ≤ k), List.drop_of_length_le (by omega : lb.length ≤ k)]; rfl
              have HF := hide hfin; clear hfin hlt
              go_wp2
              go_ret2
              refine ⟨?_, hB2.trans (below_drewN' _ _ _)⟩
              rw [unhide HF]; rfl
end
section
open Go Go.Proofs Go.RowKit
/-- The number that digits stand for, if it isn't above a limit. -/
def dgF (most : Nat) : List Nat → Nat → Option Nat
  | [], n => some n
  | c :: r, n => if c < 48 ∨ 57 < c then none else if most < n * 10 + (c - 48) then none else dgF most r (n * 10 + (c - 48))
def dgV (most : Nat) (l : List Nat) : Option Nat :=
  match l with
  | [] => none
  | c :: r => if c = 48 ∧ r ≠ [] then none else dgF most (c :: r) 0
theorem dgF_le (most : Nat) : ∀ (l : List Nat) (n m : Nat), n ≤ most → dgF most l n = some m → m ≤ most
  | [], n, m, h, e => by simp [dgF] at e; omega
  | c :: r, n, m, h, e => by
    unfold dgF at e
    split at e
    · cases e
    · split at e
      · cases e
      · exact dgF_le most r _ m (by omega) e
theorem dgV_le (most : Nat) (l : List Nat) (m : Nat) (e : dgV most l = some m) : m ≤ most := by
  unfold dgV at e
  split at e
  · cases e
  · split at e
    · cases e
    · exact dgF_le most _ 0 m (Nat.zero_le _) e
theorem get_at (s : ByteArray) (i : Nat) (h : i < s.size) : s.get! i = s[i]'h := by
  cases s with
  | mk d => exact getElem!_pos d i h
theorem dgF_step (most : Nat) (s : ByteArray) (i n : Nat) (h : i < s.size) :
    dgF most ((nums s).drop i) n = if (s.get! i).toNat < 48 ∨ 57 < (s.get! i).toNat then none else if most < n * 10 + ((s.get! i).toNat - 48) then none else dgF most ((nums s).drop (i + 1)) (n * 10 + ((s.get! i).toNat - 48)) := by
  have hl : i < (nums s).length := by rw [nums_len]; exact h
  have hg : (s.get! i).toNat = (nums s)[i] := by
    rw [get_nums, List.getD_eq_getElem?_getD, List.getElem?_eq_getElem hl]; rfl
  rw [hg, List.drop_eq_getElem_cons hl, dgF]
theorem dgF_end (most : Nat) (s : ByteArray) (i n : Nat) (h : s.size ≤ i) : dgF most ((nums s).drop i) n = some n := by
  rw [List.drop_eq_nil_of_le (by rw [nums_len]; exact h), dgF]
theorem dgV_nil (most : Nat) (s : ByteArray) (h : s.size = 0) : dgV most (nums s) = none := by
  have : nums s = [] := by rw [← List.length_eq_zero_iff, nums_len]; exact h
  rw [this, dgV]
theorem dgV_cons (most : Nat) (s : ByteArray) (h : 0 < s.size) : dgV most (nums s) = if (s.get! 0).toNat = 48 ∧ 1 < s.size then none else dgF most ((nums s).drop 0) 0 := by
  have hg := get_nums s 0
  have hl := nums_len s
  cases hn : nums s with
  | nil => rw [hn] at hl; simp at hl; omega
  | cons c r =>
    rw [hn] at hg hl
    simp only [List.getD_cons_zero, List.length_cons] at hg hl
    rw [hg, dgV, List.drop_zero]
    have : (r ≠ []) ↔ 1 < s.size := by
      rw [← hl, ← List.length_pos_iff]; omega
    simp only [this]
set_option maxHeartbeats 2000000 in
set_option maxRecDepth 100000 in
theorem digits28 (s : ByteArray) (most : Nat) (hs : s.size < 4611686018427387904) (hm : most ≤ 9007199254740991) (w : World) : Calls Tryz.prog 77 #[.string s, .int .u64 (most : Nat)] w fun e w' => e = .returned (.tuple #[.int .u64 ((dgV most (nums s)).getD 0 : Nat), .bool (dgV most (nums s)).isSome]) ∧ w' = w := by
  have hE : (s.toList.isEmpty = true) ↔ s.size = 0 := by
    rw [ByteArray.size, ← Array.length_toList, List.length_eq_zero_iff]
    simp [Lib.toList_data]
  go_enter Tryz.func77, Tryz.ntmps77
  by_cases h0 : s.size = 0
  · have hv := dgV_nil most s h0
    have he := hE.2 h0
    have hz : (s.size : Int) = 0 := by omega
    clear hE
    go_wp2
    go_ret2
    exact ⟨by rw [hv]; rfl, rfl⟩
  · have hp : 0 < s.size := by omega
    have hv := dgV_cons most s hp
    have he : s.toList.isEmpty = false := by
      cases h : s.toList.isEmpty
      · rfl
      · exact absurd (hE.1 h) h0
    clear hE
    have z0 : (0 : Int) < s.size := by omega
    by_cases hz : (s.get! 0).toNat = 48 ∧ 1 < s.size
    · rw [if_pos hz] at hv
      obtain ⟨hz1, hz2⟩ := hz
      have z1 : (1 : Int) < s.size := by omega
      have z2 : ((s[0]'hp).toNat : Int) = 48 := by rw [← get_at s 0 hp]; omega
      clear hz1
      go_wp2
      go_ret2
      exact ⟨by rw [hv]; rfl, rfl⟩
    · rw [if_neg hz] at hv
      have HV := hide hv
      clear hv
      have hc3 : (1 < s.size ∧ ¬ ((s[0]'hp).toNat : Int) = 48) ∨ (¬ 1 < s.size ∧ ((s[0]'hp).toNat : Int) = 48) ∨ (¬ 1 < s.size ∧ ¬ ((s[0]'hp).toNat : Int) = 48) := by
        rw [← get_at s 0 hp]; omega
      clear hz
      have ones : (1 < s.size → (1 : Int) < s.size) ∧ (¬ 1 < s.size → ¬ (1 : Int) < s.size) := ⟨by omega, by omega⟩
      rcases hc3 with ⟨h1, z2⟩ | ⟨h1, z2⟩ | ⟨h1, z2⟩
      case inl =>
        have z1 := ones.1 h1
        clear ones
        go_wp2_with fail
        go_loopg [6, 7] (s.size + 1) (fun g s6 s7 wr => ∃ (n i : Nat), s6 = .int .u64 n ∧ s7 = .int .i64 i ∧ i ≤ s.size ∧ s.size - i < g ∧ n ≤ most ∧ wr = w ∧ Hid (dgV most (nums s) = dgF most ((nums s).drop i) n))
        case atStart => exact ⟨0, 0, rfl, rfl, Nat.zero_le _, by omega, Nat.zero_le _, rfl, HV⟩
        case round =>
          obtain ⟨n, i, rfl, rfl, hi, hg, hn, rfl, hR⟩ := hrel
          clear z0 z1 z2 h1
          by_cases hil : i < s.size
          · have hst := dgF_step most s i n hil
            rw [get_at s i hil] at hst
            have y0 : (i : Int) < s.size := by omega
            have hcl := (s[i]'hil).toNat_lt
            by_cases hc1 : (s[i]'hil).toNat < 48
            · rw [if_pos (Or.inl hc1)] at hst
              have HS := hide hst
              have y1 : ((s[i]'hil).toNat : Int) < 48 := by omega
              clear hst hc1
              go_wp2
              go_ret2
              exact ⟨by rw [unhide hR, unhide HS]; rfl, rfl⟩
            · have y1 : ¬ ((s[i]'hil).toNat : Int) < 48 := by omega
              by_cases hc2 : 57 < (s[i]'hil).toNat
              · rw [if_pos (Or.inr hc2)] at hst
                have HS := hide hst
                have y2 : (57 : Int) < ((s[i]'hil).toNat : Int) := by omega
                clear hst hc1 hc2
                go_wp2
                go_ret2
                exact ⟨by rw [unhide hR, unhide HS]; rfl, rfl⟩
              · rw [if_neg (by omega)] at hst
                have y2 : ¬ (57 : Int) < ((s[i]'hil).toNat : Int) := by omega
                obtain ⟨m, hm1⟩ : ∃ m, m = n * 10 + ((s[i]'hil).toNat - 48) := ⟨_, rfl⟩
                rw [← hm1] at hst
                have y3 : IntKind.u8.wrap (((s[i]'hil).toNat : Int) - 48) = (((s[i]'hil).toNat - 48 : Nat) : Int) := by
                  simp [IntKind.wrap, IntKind.bits, IntKind.signed]; omega
                have y4 : IntKind.u64.wrap (((s[i]'hil).toNat - 48 : Nat) : Int) = (((s[i]'hil).toNat - 48 : Nat) : Int) := by
                  simp [IntKind.wrap, IntKind.bits, IntKind.signed]; omega
                have y5 : IntKind.u64.wrap ((n : Int) * 10) = ((n * 10 : Nat) : Int) := by
                  simp [IntKind.wrap, IntKind.bits, IntKind.signed]; omega
                have y6 : IntKind.u64.wrap (((n * 10 : Nat) : Int) + (((s[i]'hil).toNat - 48 : Nat) : Int)) = (m : Int) := by
                  simp [IntKind.wrap, IntKind.bits, IntKind.signed]; omega
                have y7 : IntKind.i64.wrap ((i : Int) + 1) = ((i + 1 : Nat) : Int) := by rw [IntKind.wrap_i64]; omega
                by_cases hmm : most < m
                · rw [if_pos hmm] at hst
                  have HS := hide hst
                  have y8 : (most : Int) < m := by omega
                  clear hst hc1 hc2
                  go_wp2
                  go_ret2
                  exact ⟨by rw [unhide hR, unhide HS]; rfl, rfl⟩
                · rw [if_neg hmm] at hst
                  have HS := hide hst
                  have y8 : ¬ (most : Int) < m := by omega
                  clear hst hc1 hc2
                  go_wp2
                  go_roundg (s.size - i)
                  case measure => omega
                  case rel => exact ⟨m, i + 1, by congr 1; omega, by go_num, by omega, by omega, by omega, rfl, hide (by rw [unhide hR, unhide HS])⟩
          · have hst := dgF_end most s i n (by omega)
            have HS := hide hst
            have y0 : ¬ (i : Int) < s.size := by omega
            clear hst
            go_wp2
            go_ret2
            exact ⟨by rw [unhide hR, unhide HS]; rfl, rfl⟩
      case inr.inl =>
        have z1 := ones.2 h1
        clear ones
        go_wp2_with fail
        go_loopg [6, 7] (s.size + 1) (fun g s6 s7 wr => ∃ (n i : Nat), s6 = .int .u64 n ∧ s7 = .int .i64 i ∧ i ≤ s.size ∧ s.size - i < g ∧ n ≤ most ∧ wr = w ∧ Hid (dgV most (nums s) = dgF most ((nums s).drop i) n))
        case atStart => exact ⟨0, 0, rfl, rfl, Nat.zero_le _, by omega, Nat.zero_le _, rfl, HV⟩
        case round =>
          obtain ⟨n, i, rfl, rfl, hi, hg, hn, rfl, hR⟩ := hrel
          clear z0 z1 z2 h1
          by_cases hil : i < s.size
          · have hst := dgF_step most s i n hil
            rw [get_at s i hil] at hst
            have y0 : (i : Int) < s.size := by omega
            have hcl := (s[i]'hil).toNat_lt
            by_cases hc1 : (s[i]'hil).toNat < 48
            · rw [if_pos (Or.inl hc1)] at hst
              have HS := hide hst
              have y1 : ((s[i]'hil).toNat : Int) < 48 := by omega
              clear hst hc1
              go_wp2
              go_ret2
              exact ⟨by rw [unhide hR, unhide HS]; rfl, rfl⟩
            · have y1 : ¬ ((s[i]'hil).toNat : Int) < 48 := by omega
              by_cases hc2 : 57 < (s[i]'hil).toNat
              · rw [if_pos (Or.inr hc2)] at hst
                have HS := hide hst
                have y2 : (57 : Int) < ((s[i]'hil).toNat : Int) := by omega
                clear hst hc1 hc2
                go_wp2
                go_ret2
                exact ⟨by rw [unhide hR, unhide HS]; rfl, rfl⟩
              · rw [if_neg (by omega)] at hst
                have y2 : ¬ (57 : Int) < ((s[i]'hil).toNat : Int) := by omega
                obtain ⟨m, hm1⟩ : ∃ m, m = n * 10 + ((s[i]'hil).toNat - 48) := ⟨_, rfl⟩
                rw [← hm1] at hst
                have y3 : IntKind.u8.wrap (((s[i]'hil).toNat : Int) - 48) = (((s[i]'hil).toNat - 48 : Nat) : Int) := by
                  simp [IntKind.wrap, IntKind.bits, IntKind.signed]; omega
                have y4 : IntKind.u64.wrap (((s[i]'hil).toNat - 48 : Nat) : Int) = (((s[i]'hil).toNat - 48 : Nat) : Int) := by
                  simp [IntKind.wrap, IntKind.bits, IntKind.signed]; omega
                have y5 : IntKind.u64.wrap ((n : Int) * 10) = ((n * 10 : Nat) : Int) := by
                  simp [IntKind.wrap, IntKind.bits, IntKind.signed]; omega
                have y6 : IntKind.u64.wrap (((n * 10 : Nat) : Int) + (((s[i]'hil).toNat - 48 : Nat) : Int)) = (m : Int) := by
                  simp [IntKind.wrap, IntKind.bits, IntKind.signed]; omega
                have y7 : IntKind.i64.wrap ((i : Int) + 1) = ((i + 1 : Nat) : Int) := by rw [IntKind.wrap_i64]; omega
                by_cases hmm : most < m
                · rw [if_pos hmm] at hst
                  have HS := hide hst
                  have y8 : (most : Int) < m := by omega
                  clear hst hc1 hc2
                  go_wp2
                  go_ret2
                  exact ⟨by rw [unhide hR, unhide HS]; rfl, rfl⟩
                · rw [if_neg hmm] at hst
                  have HS := hide hst
                  have y8 : ¬ (most : Int) < m := by omega
                  clear hst hc1 hc2
                  go_wp2
                  go_roundg (s.size - i)
                  case measure => omega
                  case rel => exact ⟨m, i + 1, by congr 1; omega, by go_num, by omega, by omega, by omega, rfl, hide (by rw [unhide hR, unhide HS])⟩
          · have hst := dgF_end most s i n (by omega)
            have HS := hide hst
            have y0 : ¬ (i : Int) < s.size := by omega
            clear hst
            go_wp2
            go_ret2
            exact ⟨by rw [unhide hR, unhide HS]; rfl, rfl⟩
      case inr.inr =>
        have z1 := ones.2 h1
        clear ones
        go_wp2_with fail
        go_loopg [6, 7] (s.size + 1) (fun g s6 s7 wr => ∃ (n i : Nat), s6 = .int .u64 n ∧ s7 = .int .i64 i ∧ i ≤ s.size ∧ s.size - i < g ∧ n ≤ most ∧ wr = w ∧ Hid (dgV most (nums s) = dgF most ((nums s).drop i) n))
        case atStart => exact ⟨0, 0, rfl, rfl, Nat.zero_le _, by omega, Nat.zero_le _, rfl, HV⟩
        case round =>
          obtain ⟨n, i, rfl, rfl, hi, hg, hn, rfl, hR⟩ := hrel
          clear z0 z1 z2 h1
          by_cases hil : i < s.size
          · have hst := dgF_step most s i n hil
            rw [get_at s i hil] at hst
            have y0 : (i : Int) < s.size := by omega
            have hcl := (s[i]'hil).toNat_lt
            by_cases hc1 : (s[i]'hil).toNat < 48
            · rw [if_pos (Or.inl hc1)] at hst
              have HS := hide hst
              have y1 : ((s[i]'hil).toNat : Int) < 48 := by omega
              clear hst hc1
              go_wp2
              go_ret2
              exact ⟨by rw [unhide hR, unhide HS]; rfl, rfl⟩
            · have y1 : ¬ ((s[i]'hil).toNat : Int) < 48 := by omega
              by_cases hc2 : 57 < (s[i]'hil).toNat
              · rw [if_pos (Or.inr hc2)] at hst
                have HS := hide hst
                have y2 : (57 : Int) < ((s[i]'hil).toNat : Int) := by omega
                clear hst hc1 hc2
                go_wp2
                go_ret2
                exact ⟨by rw [unhide hR, unhide HS]; rfl, rfl⟩
              · rw [if_neg (by omega)] at hst
                have y2 : ¬ (57 : Int) < ((s[i]'hil).toNat : Int) := by omega
                obtain ⟨m, hm1⟩ : ∃ m, m = n * 10 + ((s[i]'hil).toNat - 48) := ⟨_, rfl⟩
                rw [← hm1] at hst
                have y3 : IntKind.u8.wrap (((s[i]'hil).toNat : Int) - 48) = (((s[i]'hil).toNat - 48 : Nat) : Int) := by
                  simp [IntKind.wrap, IntKind.bits, IntKind.signed]; omega
                have y4 : IntKind.u64.wrap (((s[i]'hil).toNat - 48 : Nat) : Int) = (((s[i]'hil).toNat - 48 : Nat) : Int) := by
                  simp [IntKind.wrap, IntKind.bits, IntKind.signed]; omega
                have y5 : IntKind.u64.wrap ((n : Int) * 10) = ((n * 10 : Nat) : Int) := by
                  simp [IntKind.wrap, IntKind.bits, IntKind.signed]; omega
                have y6 : IntKind.u64.wrap (((n * 10 : Nat) : Int) + (((s[i]'hil).toNat - 48 : Nat) : Int)) = (m : Int) := by
                  simp [IntKind.wrap, IntKind.bits, IntKind.signed]; omega
                have y7 : IntKind.i64.wrap ((i : Int) + 1) = ((i + 1 : Nat) : Int) := by rw [IntKind.wrap_i64]; omega
                by_cases hmm : most < m
                · rw [if_pos hmm] at hst
                  have HS := hide hst
                  have y8 : (most : Int) < m := by omega
                  clear hst hc1 hc2
                  go_wp2
                  go_ret2
                  exact ⟨by rw [unhide hR, unhide HS]; rfl, rfl⟩
                · rw [if_neg hmm] at hst
                  have HS := hide hst
                  have y8 : ¬ (most : Int) < m := by omega
                  clear hst hc1 hc2
                  go_wp2
                  go_roundg (s.size - i)
                  case measure => omega
                  case rel => exact ⟨m, i + 1, by congr 1; omega, by go_num, by omega, by omega, by omega, rfl, hide (by rw [unhide hR, unhide HS])⟩
          · have hst := dgF_end most s i n (by omega)
            have HS := hide hst
            have y0 : ¬ (i : Int) < s.size := by omega
            clear hst
            go_wp2
            go_ret2
            exact ⟨by rw [unhide hR, unhide HS]; rfl, rfl⟩
