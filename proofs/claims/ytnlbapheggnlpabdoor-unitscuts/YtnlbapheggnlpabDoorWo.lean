import Derived.Test.YtnlbapheggnlpabDoorWn
import Derived.Deep.RegionHeld3
import Derived.Deep.QuietTactic
import Derived.BigQuiet
namespace Go.Proofs.YtnlbapheggnlpabDoor
open Go.RowKit Go.Shelf

theorem valid_cs (s : ByteArray) (h : vS s = true) : ∃ cs : List CP, nums s = bytes cs ∧ unS s = unitsN (cs.map (·.1)) ∧ M.Wtf (nums s) (cs.map (·.1)) := by
  rcases M.valid_ref (nums s) (nums_lt s) with ⟨_, u, h2, h3, cs, ⟨e1, e2, e3⟩, hu⟩ | ⟨h1, _⟩
  · have hcs : ∃ l : List CP, l.map (·.1) = cs := by
      clear h2 h3 e1 e3 hu
      induction cs with
      | nil => exact ⟨[], rfl⟩
      | cons c r ih =>
        obtain ⟨l, hl⟩ := ih (fun x hx => e2 x (by simp [hx]))
        exact ⟨⟨c, e2 c (by simp)⟩ :: l, by simp [hl]⟩
    obtain ⟨l, rfl⟩ := hcs
    refine ⟨l, e1, ?_, e1, e2, e3⟩
    unfold unS rdL; rw [h, h2, hu]; rfl
  · unfold vS at h; rw [h] at h1; cases h1

theorem wrap_one (k : Nat) (h : k ≤ 1099511627776) : wrap64 ((k : Int) + 1) = ((k + 1 : Nat) : Int) := by unfold wrap64; omega
set_option maxRecDepth 100000 in
theorem at_key (s : ByteArray) (i : Int) (cs : List CP) (h2 : unS s = unitsN (cs.map (·.1))) (hv : vS s = true) (hl : (unS s).length ≤ 1099511627776) (u er : Int)
    (hcase : (∃ x ∈ pts 0 cs, er = 0 ∧ ((i = (x.1.1 : Int) ∧ u = (fstU x.1.2 : Nat)) ∨ (i = wrap64 ((x.1.1 : Int) + 1) ∧ 65536 ≤ x.1.2 ∧ u = (sndU x.1.2 : Nat)))) ∨ (u = 0 ∧ er = 7 ∧ ∀ x ∈ pts 0 cs, hitB i x = false)) :
    u = ((atU s i : Nat) : Int) ∧ er = atE s i := by
  unfold atU atE inB
  rw [hv]
  rcases hcase with ⟨x, hx, rfl, hc⟩ | ⟨rfl, rfl, hn⟩
  · obtain ⟨g0, g1, g2⟩ := pts_get cs 0 x hx
    rw [← h2] at g1 g2
    simp only [Nat.sub_zero] at g1 g2
    have l1 := (List.getElem?_eq_some_iff.1 g1).1
    rcases hc with ⟨rfl, rfl⟩ | ⟨hi, hbig, rfl⟩
    · have : (decide ((0 : Int) ≤ (x.1.1 : Int)) && decide ((x.1.1 : Int) < ((unS s).length : Int))) = true := by simp; omega
      rw [this]
      simp [List.getD_eq_getElem?_getD, g1]
    · have l2 := (List.getElem?_eq_some_iff.1 (g2 hbig)).1
      have hi' : i = ((x.1.1 + 1 : Nat) : Int) := by rw [hi]; exact wrap_one _ (by omega)
      subst hi'
      have : (decide ((0 : Int) ≤ ((x.1.1 + 1 : Nat) : Int)) && decide (((x.1.1 + 1 : Nat) : Int) < ((unS s).length : Int))) = true := by simp; omega
      rw [this]
      simp [List.getD_eq_getElem?_getD, g2 hbig]
  · have : (decide ((0 : Int) ≤ i) && decide (i < ((unS s).length : Int))) = false := by
      cases hq : (decide ((0 : Int) ≤ i) && decide (i < ((unS s).length : Int))) with
      | false => rfl
      | true =>
        simp at hq
        obtain ⟨k, rfl⟩ := Int.eq_ofNat_of_zero_le hq.1
        obtain ⟨x, hx, hh⟩ := pts_hit cs 0 k (by omega) (by omega) (by rw [← h2]; omega)
        rw [hn x hx] at hh; cases hh
    rw [this]
    simp

theorem at_any (s : ByteArray) (i : Int) (hsz : s.size ≤ 1099511627776) (w : World) (hT : Lib.Utf8Tabs 0 1 w) :
    Calls Tryd.prog 11 #[.string s, .int .i64 i] w fun e w' => e = .returned (.tuple #[.int .u16 (atU s i : Nat), .int .i64 (atE s i)]) ∧ Below w.heap.size w w' := by
  cases hv : vS s with
  | false =>
    refine (at_bad s i hv w hT).mono ?_
    rintro e w' ⟨rfl, hb⟩
    unfold atU atE; rw [hv]
    exact ⟨rfl, hb⟩
  | true =>
    obtain ⟨cs, h1, h2, _⟩ := valid_cs s hv
    have hul := unS_len s
    refine (at_good s i cs h1 hv hsz w hT).mono ?_
    rintro e w' ⟨u, er, rfl, hb, hcase⟩
    refine ⟨?_, hb⟩
    have key := at_key s i cs h2 hv (by omega) u er hcase
    rw [key.1, key.2]

end Go.Proofs.YtnlbapheggnlpabDoor
