import Derived.Test.YtakenhaieblikaaDoorWn
import Derived.Deep.RegionHeld3
import Derived.Deep.QuietTactic
import Derived.BigQuiet
namespace Go.Proofs.YtakenhaieblikaaDoor
open Go.RowKit Go.Shelf

theorem valid_cs (s : ByteArray) (h : vS s = true) : ∃ cs : List CP, nums s = bytes cs ∧ unS s = unitsN (cs.map (·.1)) ∧ M.Wtf (nums s) (cs.map (·.1)) := by
  rcases M.valid_ref (nums s) (nums_lt s) with ⟨_, u, h2, h3, cs, ⟨e1, e2, e3⟩, hu⟩ | ⟨h1, _⟩
  · have hcs : ∃ l : List CP, l.map (·.1) = cs := by
      clear h2 h3 e1 e3 hu
      induction cs with
      | nil => exact ⟨[], rfl⟩
      | cons c r ih =>
        obtain ⟨l, hl⟩ := ih (fun x hx => e2 x (by simp [hx]))
        exact ⟨⟨c, e2 c (by simp)⟩ :: l, by simp [hl]⟩
    obtain ⟨l, rfl⟩ := hcs
    refine ⟨l, e1, ?_, e1, e2, e3⟩
    unfold unS rdL; rw [h, h2, hu]; rfl
  · unfold vS at h; rw [h] at h1; cases h1

theorem wrap_one (k : Nat) (h : k ≤ 1099511627776) : wrap64 ((k : Int) + 1) = ((k + 1 : Nat) : Int) := by unfold wrap64; omega
set_option maxRecDepth 100000 in
theorem at_key (s : ByteArray) (i : Int) (cs : List CP) (h2 : unS s = unitsN (cs.map (·.1))) (hv : vS s = true) (hl : (unS s).length ≤ 1099511627776) (u er : Int)
    (hcase : (∃ x ∈ pts 0 cs, er = 0 ∧ ((i = (x.1.1 : Int) ∧ u = (fstU x.1.2 : Nat)) ∨ (i = wrap64 ((x.1.1 : Int) + 1) ∧ 65536 ≤ x.1.2 ∧ u = (sndU x.1.2 : Nat)))) ∨ (u = 0 ∧ er = 7 ∧ ∀ x ∈ pts 0 cs, hitB i x = false)) :
    u = ((atU s i : Nat) : Int) ∧ er = atE s i := by
  unfold atU atE inB
  rw [hv]
  rcases hcase with ⟨x, hx, rfl, hc⟩ | ⟨rfl, rfl, hn⟩
  · obtain ⟨g0, g1, g2⟩ := pts_get cs 0 x hx
    rw [← h2] at g1 g2
    simp only [Nat.sub_zero] at g1 g2
    have l1 := (List.getElem?_eq_some_iff.1 g1).1
    rcases hc with ⟨rfl, rfl⟩ | ⟨hi, hbig, rfl⟩
    · have : (decide ((0 : Int) ≤ (x.1.1 : Int)) && decide ((x.1.1 : Int) < ((unS s).length : Int))) = true := by simp; omega
      rw [this]
      simp [List.getD_eq_getElem?_getD, g1]
    · have l2 := (List.getElem?_eq_some_iff.1 (g2 hbig)).1
      have hi' : i = ((x.1.1 + 1 : Nat) : Int) := by rw [hi]; exact wrap_one _ (by omega)
      subst hi'
      have : (decide ((0 : Int) ≤ ((x.1.1 + 1 : Nat) : Int)) && decide (((x.1.1 + 1 : Nat) : Int) < ((unS s).length : Int))) = true := by simp; omega
      rw [this]
      simp [List.getD_eq_getElem?_getD, g2 hbig]
  · have : (decide ((0 : Int) ≤ i) && decide (i < ((unS s).length : Int))) = false := by
      cases hq : (decide ((0 : Int) ≤ i) && decide (i < ((unS s).length : Int))) with
      | false => rfl
      | true =>
        simp at hq
        obtain ⟨k, rfl⟩ := Int.eq_ofNat_of_zero_le hq.1
        obtain ⟨x, hx, hh⟩ := pts_hit cs 0 k (by omega) (by omega) (by rw [← h2]; omega)
        rw [hn x hx] at hh; cases hh
    rw [this]
    simp

theorem at_any (s : ByteArray) (i : Int) (hsz : s.size ≤ 1099511627776) (w : World) (hT : Lib.Utf8Tabs 0 1 w) :
    Calls Tryd.prog 24 #[.string s, .int .i64 i] w fun e w' => e = .returned (.tuple #[.int .u16 (atU s i : Nat), .int .i64 (atE s i)]) ∧ Below w.heap.size w w' := by
  cases hv : vS s with
  | false =>
    refine (at_bad s i hv w hT).mono ?_
    rintro e w' ⟨rfl, hb⟩
    unfold atU atE; rw [hv]
    exact ⟨rfl, hb⟩
  | true =>
    obtain ⟨cs, h1, h2, _⟩ := valid_cs s hv
    have hul := unS_len s
    refine (at_good s i cs h1 hv hsz w hT).mono ?_
    rintro e w' ⟨u, er, rfl, hb, hcase⟩
    refine ⟨?_, hb⟩
    have key := at_key s i cs h2 hv (by omega) u er hcase
    rw [key.1, key.2]

set_option maxHeartbeats 1000000 in
set_option maxRecDepth 100000 in
theorem refAt_any (s : ByteArray) (i : Int) (hsz : s.size ≤ 1099511627776) (w : World) :
    Calls Tryd.prog 25 #[.string s, .int .i64 i] w fun e w' => e = .returned (.tuple #[.int .u16 (atU s i : Nat), .int .i64 (atE s i)]) ∧ Below w.heap.size w w' := by
  have hua := refUnits_any s hsz w
  have hul := unS_len s
  have hu0 : vS s = false → atU s i = 0 ∧ atE s i = 10 := fun h => by unfold atU atE; rw [h]; exact ⟨rfl, rfl⟩
  have hu1 : vS s = true → inB s i = false → atU s i = 0 ∧ atE s i = 7 := fun h h' => by unfold atU atE; rw [h, h']; exact ⟨rfl, rfl⟩
  have hu2 : vS s = true → inB s i = true → atU s i = (unS s).getD i.toNat 0 ∧ atE s i = 0 := fun h h' => by unfold atU atE; rw [h, h']; exact ⟨rfl, rfl⟩
  unfold inB at hu1 hu2
  unfold erS at hua
  generalize atU s i = U at *
  generalize atE s i = E at *
  generalize hvs : vS s = b at *
  have HVS := hide hvs; clear hvs
  generalize unS s = l at *
  have HUA := hide hua; clear hua
  cases b with
  | false =>
    obtain ⟨rfl, rfl⟩ := hu0 rfl
    clear hu0 hu1 hu2
    go_enter Tryd.func25, Tryd.ntmps25
    go_wp2_with fail
    refine (unhide HUA).mono ?_
    rintro e w1 ⟨va, rfl, hown, hb⟩
    go_wp2
    go_ret2
    exact ⟨rfl, hb⟩
  | true =>
    by_cases hin : (decide ((0 : Int) ≤ i) && decide (i < (l.length : Int))) = true
    · obtain ⟨rfl, rfl⟩ := hu2 rfl hin
      clear hu0 hu1 hu2
      simp at hin
      obtain ⟨k, rfl⟩ := Int.eq_ofNat_of_zero_le hin.1
      have c1 : ¬ (k : Int) < 0 := by omega
      have c2 : ¬ (l.length : Int) ≤ (k : Int) := by omega
      have hk : (k : Int) < (l.length : Int) := hin.2
      rw [Int.toNat_natCast]
      generalize hx : l.getD k 0 = x at *
      have HX := hide hx; clear hx hin
      go_enter Tryd.func25, Tryd.ntmps25
      go_wp2_with fail
      refine (unhide HUA).mono ?_
      rintro e w1 ⟨va, rfl, hown, hb⟩
      obtain ⟨A, c, rfl, hA⟩ := reads_open (reads_own hown)
      obtain ⟨b, off, rfl, _, hcell⟩ := hA k (by omega)
      rw [unhide HX] at hcell
      clear hA
      go_wp2
      go_ret2
      exact ⟨rfl, hb⟩
    · have hin' : (decide ((0 : Int) ≤ i) && decide (i < (l.length : Int))) = false := by simpa using hin
      obtain ⟨rfl, rfl⟩ := hu1 rfl hin'
      clear hu0 hu1 hu2 hin'
      simp at hin
      by_cases c1 : i < 0
      · clear hin
        go_enter Tryd.func25, Tryd.ntmps25
        go_wp2_with fail
        refine (unhide HUA).mono ?_
        rintro e w1 ⟨va, rfl, hown, hb⟩
        obtain ⟨A, c, rfl, hA⟩ := reads_open (reads_own hown)
        clear hA
        go_wp2
        go_ret2
        exact ⟨rfl, hb⟩
      · have c2 : (l.length : Int) ≤ i := by omega
        clear hin
        go_enter Tryd.func25, Tryd.ntmps25
        go_wp2_with fail
        refine (unhide HUA).mono ?_
        rintro e w1 ⟨va, rfl, hown, hb⟩
        obtain ⟨A, c, rfl, hA⟩ := reads_open (reads_own hown)
        clear hA
        go_wp2
        go_ret2
        exact ⟨rfl, hb⟩
end Go.Proofs.YtakenhaieblikaaDoor
