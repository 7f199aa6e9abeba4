import Derived.Test.YtdlbciiekghkaaaDoorSb
import Derived.Sort.Statements
import Derived.Shelf.SlSortCmp.Insertion
namespace Go.Proofs.YtdlbciiekghkaaaDoor
open FM
theorem cmpI_neg (a b : Int) : cmpI a b = - cmpI b a := by
  unfold cmpI
  repeat' split
  all_goals omega
theorem cmpI_le (a b c : Int) (h1 : cmpI a b ≤ 0) (h2 : cmpI b c ≤ 0) : cmpI a c ≤ 0 := by
  unfold cmpI at *
  repeat' split at *
  all_goals omega
theorem cmpI_zero (a b : Int) : cmpI a b = 0 ↔ a = b := by
  unfold cmpI
  repeat' split
  all_goals omega
def nk (x : Nat) : Int := if ng x then -(2 * (sz x : Int)) - 1 else 2 * (sz x : Int) + 1
/-- A number's place in the order. -/
def nkey (x : Nat) : Int := if isN x then 73786976294838206464 else if ng x then -(2 * (sz x : Int)) - 1 else 2 * (sz x : Int) + 1
theorem ng_sz (x y : Nat) (hx : x < 2 ^ 64) (hy : y < 2 ^ 64) (h : ng x = ng y) (hs : sz x = sz y) : x = y := by
  unfold ng at h
  unfold sz at hs
  rw [Bool.eq_iff_iff] at h
  simp at h
  omega
theorem sz_lt (x : Nat) : sz x < 9223372036854775808 := by
  unfold sz
  omega
theorem cmpN_key (x y : Nat) (hx : x < 2 ^ 64) (hy : y < 2 ^ 64) : cmpN x y = cmpI (nkey x) (nkey y) := by
  have s1 := sz_lt x
  have s2 := sz_lt y
  have hu := ng_sz x y hx hy
  unfold cmpN cmpF nkey equalV same0V sameV pl
  cases h1 : isN x <;> cases h2 : isN y
  · by_cases he : x = y
    · subst he
      simp [cmpB]
      exact ((cmpI_zero _ _).2 rfl).symm
    · cases h3 : ng x <;> cases h4 : ng y
      all_goals
        rw [h3, h4] at hu
        simp [he, cmpB]
      all_goals
        unfold cmpI
        repeat' split
      all_goals omega
  · have : nk x < 73786976294838206464 := by
      unfold nk
      split <;> omega
    unfold nk at this
    simp [cmpI]
    intro h
    omega
  · have : nk y < 73786976294838206464 := by
      unfold nk
      split <;> omega
    unfold nk at this
    simp [cmpI]
    split <;> omega
  · simp [cmpI]
/-- What a value is ordered by within its kind, strings aside. -/
def vkey (v : VV) : Int := if v.k = 3 then (if v.b then 1 else 0) else if v.k = 4 then nkey v.x else if v.k = 6 then v.i else if v.k = 7 then v.i else 0
theorem cmpB_key (a b : Bool) : cmpB a b = cmpI (if a then 1 else 0) (if b then 1 else 0) := by
  cases a <;> cases b <;> rfl
theorem cmpV_key (a b : VV) (hx : a.x < 2 ^ 64) (hy : b.x < 2 ^ 64) : cmpV a b = if a.k ≠ b.k then cmpI a.k b.k else if a.k = 5 then M.cmpL (unS a.s) (unS b.s) else cmpI (vkey a) (vkey b) := by
  unfold cmpV vkey
  by_cases hk : a.k = b.k
  · have hn : ¬ (a.k ≠ b.k) := fun h => h hk
    rw [if_neg hn, if_neg hn, ← hk]
    by_cases h3 : a.k = 3
    · simp [h3, cmpB_key]
    · by_cases h4 : a.k = 4
      · simp [h4, cmpN_key a.x b.x hx hy]
      · by_cases h5 : a.k = 5
        · simp [h5]
        · by_cases h6 : a.k = 6
          · simp [h6]
          · by_cases h7 : a.k = 7
            · simp [h7]
            · simp [h3, h4, h5, h6, h7, cmpI]
  · rw [if_pos hk, if_pos hk]
theorem cmpV_neg (a b : VV) (hx : a.x < 2 ^ 64) (hy : b.x < 2 ^ 64) : cmpV a b = - cmpV b a := by
  rw [cmpV_key a b hx hy, cmpV_key b a hy hx]
  by_cases hk : a.k = b.k
  · rw [if_neg (fun h : a.k ≠ b.k => h hk), if_neg (fun h : b.k ≠ a.k => h hk.symm), hk]
    split
    · exact M.cmpL_neg _ _
    · exact cmpI_neg _ _
  · rw [if_pos hk, if_pos (fun h => hk h.symm)]
    exact cmpI_neg _ _
theorem cmpV_le (a b c : VV) (hx : a.x < 2 ^ 64) (hy : b.x < 2 ^ 64) (hz : c.x < 2 ^ 64) (h1 : cmpV a b ≤ 0) (h2 : cmpV b c ≤ 0) : cmpV a c ≤ 0 := by
  rw [cmpV_key a b hx hy] at h1
  rw [cmpV_key b c hy hz] at h2
  rw [cmpV_key a c hx hz]
  by_cases k1 : a.k = b.k
  · by_cases k2 : b.k = c.k
    · rw [if_neg (by simpa using k1)] at h1
      rw [if_neg (by simpa using k2)] at h2
      rw [if_neg (by simpa using k1.trans k2)]
      by_cases h5 : a.k = 5
      · rw [if_pos h5] at h1
        rw [if_pos (k1 ▸ h5)] at h2
        rw [if_pos h5]
        exact M.cmpL_le _ _ _ h1 h2
      · rw [if_neg h5] at h1
        rw [if_neg (k1 ▸ h5)] at h2
        rw [if_neg h5]
        exact cmpI_le _ _ _ h1 h2
    · rw [if_pos k2] at h2
      rw [if_pos (by rw [k1]; exact k2), k1]
      exact h2
  · rw [if_pos k1] at h1
    by_cases k2 : b.k = c.k
    · rw [if_pos (by rw [← k2]; exact k1), ← k2]
      exact h1
    · rw [if_pos k2] at h2
      have h3 := cmpI_le _ _ _ h1 h2
      by_cases k3 : a.k = c.k
      · exfalso
        unfold cmpI at h1 h2
        repeat' split at h1
        all_goals repeat' split at h2
        all_goals omega
      · rw [if_pos k3]
        exact h3
theorem key_zero (a b : VV) (hx : a.x < 2 ^ 64) (hy : b.x < 2 ^ 64) : nkey a.x = nkey b.x ↔ sameV a.x b.x = true := by
  have s1 := sz_lt a.x
  have s2 := sz_lt b.x
  have hu := ng_sz a.x b.x hx hy
  unfold nkey sameV
  cases h1 : isN a.x <;> cases h2 : isN b.x
  · simp
    constructor
    · cases h3 : ng a.x <;> cases h4 : ng b.x
      all_goals
        rw [h3, h4] at hu
        simp
        intro h
        first | exact hu rfl (by omega) | omega
    · intro h
      rw [h]
  · simp
    have : a.x ≠ b.x := fun h => by rw [h, h2] at h1; cases h1
    simp [this]
    split <;> omega
  · simp
    have : a.x ≠ b.x := fun h => by rw [h, h2] at h1; cases h1
    simp [this]
    split <;> omega
  · simp
theorem cmpV_zero (a b : VV) (ha : a.good = true) (hb : b.good = true) (hx : a.x < 2 ^ 64) (hy : b.x < 2 ^ 64) : cmpV a b = 0 ↔ alikeV sameV a b = true := by
  rw [cmpV_key a b hx hy]
  by_cases hk : a.k = b.k
  · rw [if_neg (fun h : a.k ≠ b.k => h hk)]
    have hz := key_zero a b hx hy
    unfold alikeV vkey
    obtain ⟨ka, ba, xa, sa, ia⟩ := a
    obtain ⟨kb, bb, xb, sb, ib⟩ := b
    dsimp only at hk hx hy hz ⊢
    subst hk
    have ga := good_cases ha
    have gb := good_cases hb
    clear ha hb
    rcases ga with ⟨rfl, rfl, rfl, rfl, rfl⟩ | ⟨rfl, rfl, rfl, rfl, rfl⟩ | ⟨rfl, rfl, rfl, rfl⟩ | ⟨rfl, rfl, rfl, rfl⟩ | ⟨rfl, rfl, rfl, rfl, va⟩ | ⟨rfl, rfl, rfl, rfl, -, -⟩ | ⟨rfl, rfl, rfl, rfl, -, -⟩
    · rcases gb with ⟨-, rfl, rfl, rfl, rfl⟩ | ⟨h, -⟩ | ⟨h, -⟩ | ⟨h, -⟩ | ⟨h, -⟩ | ⟨h, -⟩ | ⟨h, -⟩ <;> first | (exfalso; dsimp only at h; omega) | simp [cmpI]
    · rcases gb with ⟨h, -⟩ | ⟨-, rfl, rfl, rfl, rfl⟩ | ⟨h, -⟩ | ⟨h, -⟩ | ⟨h, -⟩ | ⟨h, -⟩ | ⟨h, -⟩ <;> first | (exfalso; dsimp only at h; omega) | simp [cmpI]
    · rcases gb with ⟨h, -⟩ | ⟨h, -⟩ | ⟨-, rfl, rfl, rfl⟩ | ⟨h, -⟩ | ⟨h, -⟩ | ⟨h, -⟩ | ⟨h, -⟩ <;> first | (exfalso; dsimp only at h; omega) | (cases ba <;> cases bb <;> simp [cmpI])
    · simp [cmpI_zero, hz]
    · rcases gb with ⟨h, -⟩ | ⟨h, -⟩ | ⟨h, -⟩ | ⟨h, -⟩ | ⟨-, rfl, rfl, rfl, vb⟩ | ⟨h, -⟩ | ⟨h, -⟩ <;> first | (exfalso; dsimp only at h; omega) | skip
      have wa : vS sa = true := by
        unfold fitV at va
        exact (Bool.and_eq_true_iff.1 va).2
      have wb : vS sb = true := by
        unfold fitV at vb
        exact (Bool.and_eq_true_iff.1 vb).2
      simp [M.cmpL_zero]
      constructor
      · intro h
        rw [un_inj wa wb h]
      · intro h
        rw [toList_inj h]
    · rcases gb with ⟨h, -⟩ | ⟨h, -⟩ | ⟨h, -⟩ | ⟨h, -⟩ | ⟨h, -⟩ | ⟨-, rfl, rfl, rfl, -, -⟩ | ⟨h, -⟩ <;> first | (exfalso; dsimp only at h; omega) | simp [cmpI_zero]
    · rcases gb with ⟨h, -⟩ | ⟨h, -⟩ | ⟨h, -⟩ | ⟨h, -⟩ | ⟨h, -⟩ | ⟨h, -⟩ | ⟨-, rfl, rfl, rfl, -, -⟩ <;> first | (exfalso; dsimp only at h; omega) | simp [cmpI_zero]
  · rw [if_pos hk]
    simp [alikeV, hk, cmpI_zero]
/-- Values that are well formed. -/
abbrev GV := { v : VV // v.good = true ∧ v.x < 2 ^ 64 }
def cmpG (a b : GV) : Int := cmpV a.1 b.1
theorem swo : Go.Sort.SWO (ltOf cmpG) where
  irrefl a := by
    have := cmpV_neg a.1 a.1 a.2.2 a.2.2
    have e : cmpG a a = cmpV a.1 a.1 := rfl
    simp only [ltOf, decide_eq_false_iff_not]
    rw [e]
    omega
  trans a b c h1 h2 := by
    simp only [ltOf, decide_eq_true_eq] at *
    rw [show cmpG a b = cmpV a.1 b.1 from rfl] at h1
    rw [show cmpG b c = cmpV b.1 c.1 from rfl] at h2
    rw [show cmpG a c = cmpV a.1 c.1 from rfl]
    have n1 := cmpV_neg a.1 b.1 a.2.2 b.2.2
    have n3 := cmpV_neg a.1 c.1 a.2.2 c.2.2
    have l1 := cmpV_le a.1 b.1 c.1 a.2.2 b.2.2 c.2.2 (by omega) (by omega)
    by_cases h : cmpV a.1 c.1 = 0
    · have l2 := cmpV_le b.1 c.1 a.1 b.2.2 c.2.2 a.2.2 (by omega) (by omega)
      omega
    · omega
  ntrans a b c h1 h2 := by
    simp only [ltOf, decide_eq_false_iff_not] at *
    rw [show cmpG a b = cmpV a.1 b.1 from rfl] at h1
    rw [show cmpG b c = cmpV b.1 c.1 from rfl] at h2
    rw [show cmpG a c = cmpV a.1 c.1 from rfl]
    have n1 := cmpV_neg a.1 b.1 a.2.2 b.2.2
    have n2 := cmpV_neg b.1 c.1 b.2.2 c.2.2
    have n3 := cmpV_neg a.1 c.1 a.2.2 c.2.2
    have l1 := cmpV_le c.1 b.1 a.1 c.2.2 b.2.2 a.2.2 (by omega) (by omega)
    omega
end Go.Proofs.YtdlbciiekghkaaaDoor
