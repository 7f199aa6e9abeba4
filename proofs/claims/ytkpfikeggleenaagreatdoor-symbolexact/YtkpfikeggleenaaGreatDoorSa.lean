import Derived.Test.YtkpfikeggleenaaGreatDoorWk
import Derived.Laws.OwnMore
import Derived.Laws.MakeOwn
import Derived.Deep.RegionHeld3
import Derived.Deep.QuietTactic
import Derived.BigQuiet
import Derived.LoopTactic
namespace Go.Proofs.YtkpfikeggleenaaGreatDoor
open Go.RowKit Go.Shelf
namespace M
/-- The order of two rows. -/
def cmpL : List Nat → List Nat → Int
  | [], [] => 0
  | [], _ :: _ => -1
  | _ :: _, [] => 1
  | a :: r, b :: q => if a < b then -1 else if b < a then 1 else cmpL r q

theorem cmpL_rng : ∀ (l m : List Nat), cmpL l m = -1 ∨ cmpL l m = 0 ∨ cmpL l m = 1
  | [], [] => by simp [cmpL]
  | [], _ :: _ => by simp [cmpL]
  | _ :: _, [] => by simp [cmpL]
  | a :: l, b :: m => by
    have := cmpL_rng l m
    simp only [cmpL]; split
    · simp
    · split
      · simp
      · exact this
theorem cmpL_neg : ∀ (l m : List Nat), cmpL l m = - cmpL m l
  | [], [] => by simp [cmpL]
  | [], _ :: _ => by simp [cmpL]
  | _ :: _, [] => by simp [cmpL]
  | a :: l, b :: m => by
    have := cmpL_neg l m
    simp only [cmpL]
    by_cases h1 : a < b
    · rw [if_pos h1, if_neg (by omega), if_pos h1]
    · by_cases h2 : b < a
      · rw [if_neg h1, if_pos h2, if_pos h2]; rfl
      · rw [if_neg h1, if_neg h2, if_neg h2, if_neg h1]; exact this
theorem cmpL_zero : ∀ (l m : List Nat), cmpL l m = 0 ↔ l = m
  | [], [] => by simp [cmpL]
  | [], _ :: _ => by simp [cmpL]
  | _ :: _, [] => by simp [cmpL]
  | a :: l, b :: m => by
    have := cmpL_zero l m
    simp only [cmpL, List.cons.injEq]
    by_cases h1 : a < b
    · rw [if_pos h1]; constructor
      · intro h; omega
      · rintro ⟨h, _⟩; omega
    · by_cases h2 : b < a
      · rw [if_neg h1, if_pos h2]; constructor
        · intro h; omega
        · rintro ⟨h, _⟩; omega
      · rw [if_neg h1, if_neg h2, this]; constructor
        · intro h; exact ⟨by omega, h⟩
        · exact And.right
theorem cmpL_le : ∀ (a b c : List Nat), cmpL a b ≤ 0 → cmpL b c ≤ 0 → cmpL a c ≤ 0
  | [], _, [] => by simp [cmpL]
  | [], _, _ :: _ => by simp [cmpL]
  | _ :: _, [], _ => by simp [cmpL]
  | _ :: _, _ :: _, [] => by simp [cmpL]
  | x :: a, y :: b, z :: c => by
    have := cmpL_le a b c
    simp only [cmpL]
    intro h1 h2
    by_cases a1 : x < y
    · by_cases b1 : y < z
      · rw [if_pos (by omega)]; omega
      · rw [if_neg b1] at h2
        by_cases b2 : z < y
        · rw [if_pos b2] at h2; omega
        · rw [if_pos (by omega)]; omega
    · rw [if_neg a1] at h1
      by_cases a2 : y < x
      · rw [if_pos a2] at h1; omega
      · rw [if_neg a2] at h1
        by_cases b1 : y < z
        · rw [if_pos (by omega)]; omega
        · rw [if_neg b1] at h2
          by_cases b2 : z < y
          · rw [if_pos b2] at h2; omega
          · rw [if_neg b2] at h2
            rw [if_neg (by omega), if_neg (by omega)]
            exact this h1 h2
theorem cmpL_ge (a b c : List Nat) (h1 : 0 ≤ cmpL a b) (h2 : 0 ≤ cmpL b c) : 0 ≤ cmpL a c := by
  have e1 := cmpL_neg a b; have e2 := cmpL_neg b c; have e3 := cmpL_neg a c
  have := cmpL_le c b a (by omega) (by omega)
  omega
end M
theorem unS_len (s : ByteArray) : (unS s).length ≤ s.size := by
  unfold unS; split
  · exact rdL_len s
  · simp
theorem valid_cs (s : ByteArray) (h : vS s = true) : ∃ cs : List CP, nums s = bytes cs ∧ unS s = unitsN (cs.map (·.1)) ∧ M.Wtf (nums s) (cs.map (·.1)) := by
  rcases M.valid_ref (nums s) (nums_lt s) with ⟨_, u, h2, h3, cs, ⟨e1, e2, e3⟩, hu⟩ | ⟨h1, _⟩
  · have hcs : ∃ l : List CP, l.map (·.1) = cs := by
      clear h2 h3 e1 e3 hu
      induction cs with
      | nil => exact ⟨[], rfl⟩
      | cons c r ih =>
        obtain ⟨l, hl⟩ := ih (fun x hx => e2 x (by simp [hx]))
        exact ⟨⟨c, e2 c (by simp)⟩ :: l, by simp [hl]⟩
    obtain ⟨l, rfl⟩ := hcs
    refine ⟨l, e1, ?_, e1, e2, e3⟩
    unfold unS rdL; rw [h, h2, hu]; rfl
  · unfold vS at h; rw [h] at h1; cases h1

theorem erS_ok' {s : ByteArray} (h : vS s = true) : erS s = 0 := by unfold erS; rw [h]; rfl
theorem erS_bad' {s : ByteArray} (h : vS s = false) : erS s = 10 := by unfold erS; rw [h]; rfl
def okC' (a b : ByteArray) : Bool := vS a && vS b
set_option maxHeartbeats 1000000 in
theorem cmp_any (a b : Nat) (w : World) : Calls Tryz.prog 88 #[.int .u16 (a : Nat), .int .u16 (b : Nat)] w fun e w' => e = .returned (.int .i64 (if a < b then -1 else if b < a then 1 else 0)) ∧ w' = w := by
  by_cases h1 : a < b
  · have h1' : (a : Int) < (b : Int) := by omega
    rw [if_pos h1]
    clear h1
    go_enter Tryz.func88, Tryz.ntmps88
    go_wp2
    go_ret
    exact ⟨rfl, rfl⟩
  · by_cases h2 : b < a
    · have h1' : ¬ (a : Int) < (b : Int) := by omega
      have h2' : (b : Int) < (a : Int) := by omega
      rw [if_neg h1, if_pos h2]
      clear h1 h2
      go_enter Tryz.func88, Tryz.ntmps88
      go_wp2
      go_ret
      exact ⟨rfl, rfl⟩
    · have h1' : ¬ (a : Int) < (b : Int) := by omega
      have h2' : ¬ (b : Int) < (a : Int) := by omega
      rw [if_neg h1, if_neg h2]
      clear h1 h2
      go_enter Tryz.func88, Tryz.ntmps88
      go_wp2
      go_ret
      exact ⟨rfl, rfl⟩

set_option maxHeartbeats 1000000 in
set_option maxRecDepth 100000 in
theorem scmp_any (va vb : Value) (la lb : List Nat) (hla : la.length ≤ 1099511627776) (hlb : lb.length ≤ 1099511627776) (w : World) (ha : Reads w va la) (hb : Reads w vb lb) :
    Calls Tryz.prog 72 #[va, vb] w fun e w' => e = .returned (.int .i64 (M.cmpL la lb)) ∧ ∃ n, w' = w.drewN n := by
  obtain ⟨A, ca, rfl, hA⟩ := reads_open ha
  obtain ⟨B, cb, rfl, hB⟩ := reads_open hb
  have HA := hide hA; have HB := hide hB; clear hA hB ha hb
  go_enter Tryz.func72, Tryz.ntmps72
  go_wp2
  go_loopw [11] (fun i wr => ∃ (k n : Nat), i = .int .i64 (k : Nat) ∧ k ≤ la.length ∧ k ≤ lb.length ∧ M.cmpL la lb = M.cmpL (la.drop k) (lb.drop k) ∧ wr = w.drewN n) (fun i _ => la.length - (intOf i).toNat)
  case atStart => exact ⟨0, 0, rfl, by omega, by omega, rfl, rfl⟩
  case round =>
    obtain ⟨k, n, rfl, hk, hkb, hc, rfl⟩ := hrel
    have HC := hide hc; clear hc
    by_cases hlt : k < la.length
    · have hlt' : (k : Int) < (la.length : Int) := by omega
      obtain ⟨b, off, rfl, _, hca⟩ := unhide HA k hlt
      have HDA := hide (drop_getD la k hlt)
      generalize la.getD k 0 = x at *
      by_cases hlb' : k < lb.length
      · have hlb2 : ¬ (lb.length : Int) ≤ (k : Int) := by omega
        obtain ⟨b', off', rfl, _, hcb⟩ := unhide HB k hlb'
        have HDB := hide (drop_getD lb k hlb')
        generalize lb.getD k 0 = y at *
        have hst : M.cmpL la lb = if x < y then -1 else if y < x then 1 else M.cmpL (la.drop (k + 1)) (lb.drop (k + 1)) := by
          rw [unhide HC, unhide HDA, unhide HDB]; rfl
        have HST := hide hst; clear hst
        go_wp2_with fail
        refine (cmp_any x y _).mono ?_
        rintro e w' ⟨rfl, rfl⟩
        by_cases c1 : x < y
        · rw [if_pos c1]
          go_wp2
          go_ret
          exact ⟨ret_int (by rw [unhide HST, if_pos c1]), n, rfl⟩
        · by_cases c2 : y < x
          · rw [if_neg c1, if_pos c2]
            go_wp2
            go_ret
            exact ⟨ret_int (by rw [unhide HST, if_neg c1, if_pos c2]), n, rfl⟩
          · rw [if_neg c1, if_neg c2]
            go_wp2
            go_roundw
            case rel => exact ⟨k + 1, n, by go_num, by omega, by omega, by rw [unhide HST, if_neg c1, if_neg c2], rfl⟩
            case measure => simp [intOf]; omega
      · have hlb2 : (lb.length : Int) ≤ (k : Int) := by omega
        go_wp2
        go_ret
        exact ⟨ret_int (by rw [unhide HC, unhide HDA, List.drop_of_length_le (by omega : lb.length ≤ k)]; rfl), n, rfl⟩
    · have hlt' : ¬ (k : Int) < (la.length : Int) := by omega
      by_cases hc2 : la.length < lb.length
      · have hc2' : (la.length : Int) < (lb.length : Int) := by omega
        have hkl : k < lb.length := by omega
        go_wp2
        go_ret
        exact ⟨ret_int (by rw [unhide HC, List.drop_of_length_le (by omega : la.length ≤ k), drop_getD lb k hkl]; rfl), n, rfl⟩
      · have hc2' : ¬ (la.length : Int) < (lb.length : Int) := by omega
        go_wp2
        go_ret
        exact ⟨ret_int (by rw [unhide HC, List.drop_of_length_le (by omega : la.length ≤ k), List.drop_of_length_le (by omega : lb.length ≤ k)]; rfl), n, rfl⟩

def cmI (a b : ByteArray) : Int := if okC' a b then M.cmpL (unS a) (unS b) else 0
def cmE (a b : ByteArray) : Int := if okC' a b then 0 else 10
theorem unitsOf_s (s : ByteArray) (hv : vS s = true) (hsz : s.size ≤ 1099511627776) (w : World) (hT : Lib.Utf8Tabs 3 4 w) :
    Calls Tryz.prog 73 #[.string s] w fun e W' => ∃ v, e = .returned v ∧ W'.ownsRow w.heap.size 127 1 v (unS s).length ((unS s).map u16v) ∧ Below w.heap.size w W' := by
  obtain ⟨cs, h1, h2, _⟩ := valid_cs s hv
  rw [h2]; exact unitsOf_any s cs h1 hsz w hT

set_option maxHeartbeats 1000000 in
set_option maxRecDepth 100000 in
theorem compare_any (a b : ByteArray) (hsa : a.size ≤ 1099511627776) (hsb : b.size ≤ 1099511627776) (w : World) (hT : Lib.Utf8Tabs 3 4 w) :
    Calls Tryz.prog 55 #[.string a, .string b] w fun e w' => e = .returned (.tuple #[.int .i64 (cmI a b), .int .i64 (cmE a b)]) ∧ Below w.heap.size w w' := by
  have hva := valid_any a w hT
  have hvb : ∀ w', Below w.heap.size w w' → Calls Tryz.prog 71 #[.string b] w' fun e w'' => e = .returned (.bool (M.valid false (nums b))) ∧ Below w'.heap.size w' w'' := fun w' h => valid_any b w' (tabs_below hT h)
  have hua : vS a = true → ∀ w', Below w.heap.size w w' → Calls Tryz.prog 73 #[.string a] w' fun e W' => ∃ v, e = .returned v ∧ W'.ownsRow w'.heap.size 127 1 v (unS a).length ((unS a).map u16v) ∧ Below w'.heap.size w' W' := fun h w' hb => unitsOf_s a h hsa w' (tabs_below hT hb)
  have hub : vS b = true → ∀ w', Below w.heap.size w w' → Calls Tryz.prog 73 #[.string b] w' fun e W' => ∃ v, e = .returned v ∧ W'.ownsRow w'.heap.size 127 1 v (unS b).length ((unS b).map u16v) ∧ Below w'.heap.size w' W' := fun h w' hb => unitsOf_s b h hsb w' (tabs_below hT hb)
  have hla := unS_len a; have hlb := unS_len b
  unfold cmI cmE okC'
  unfold vS at *
  generalize M.valid false (nums a) = va at *
  generalize M.valid false (nums b) = vb at *
  generalize unS a = la at *
  generalize unS b = lb at *
  have HVA := hide hva; have HVB := hide hvb; clear hva hvb
  cases va with
  | false =>
    clear hua hub
    go_enter Tryz.func55, Tryz.ntmps55
    go_wp2_with fail
    refine (unhide HVA).mono ?_
    rintro e w1 ⟨rfl, hb1⟩
    go_wp2
    go_ret2
    exact ⟨rfl, hb1⟩
  | true =>
    have HUA := hide (hua rfl)
    cases vb with
    | false =>
      clear hua hub
      go_enter Tryz.func55, Tryz.ntmps55
      go_wp2_with fail
      refine (unhide HVA).mono ?_
      rintro e w1 ⟨rfl, hb1⟩
      go_wp2_with fail
      refine (unhide HVB w1 hb1).mono ?_
      rintro e w2 ⟨rfl, hb2⟩
      go_wp2
      go_ret2
      exact ⟨rfl, hb1.trans (hb2.mono hb1.size)⟩
    | true =>
      have HUB := hide (hub rfl)
      clear hua hub
      go_enter Tryz.func55, Tryz.ntmps55
      go_wp2_with fail
      refine (unhide HVA).mono ?_
      rintro e w1 ⟨rfl, hb1⟩
      go_wp2_with fail
      refine (unhide HVB w1 hb1).mono ?_
      rintro e w2 ⟨rfl, hb2⟩
      have hB2 := hb1.trans (hb2.mono hb1.size)
      go_wp2_with fail
      refine (unhide HUA w2 hB2).mono ?_
      rintro e w3 ⟨v1, rfl, ho1, hb3⟩
      have hB3 := hB2.trans (hb3.mono hB2.size)
      go_wp2_with fail
      refine (unhide HUB w3 hB3).mono ?_
      rintro e w4 ⟨v2, rfl, ho2, hb4⟩
      have hB4 := hB3.trans (hb4.mono hB3.size)
      go_wp2_with fail
      refine (scmp_any v1 v2 la lb (by omega) (by omega) w4 ((reads_own ho1).same hb4) (reads_own ho2)).mono ?_
      rintro e w5 ⟨rfl, n, rfl⟩
      go_wp2
      go_ret2
      exact ⟨rfl, hB4.trans (below_drewN' _ _ _)⟩

set_option maxHeartbeats 2000000 in
set_option maxRecDepth 100000 in
theorem refCompare_any (a b : ByteArray) (hsa : a.size ≤ 1099511627776) (hsb : b.size ≤ 1099511627776) (w : World) :
    Calls Tryz.prog 56 #[.string a, .string b] w fun e w' => e = .returned (.tuple #[.int .i64 (cmI a b), .int .i64 (cmE a b)]) ∧ Below w.heap.size w w' := by
  have hua := refUnits_any a hsa w
  have HUB := hide (fun w => refUnits_any b hsb w)
  have hla := unS_len a; have hlb := unS_len b
  have hok : vS a = true → vS b = true → cmI a b = M.cmpL (unS a) (unS b) ∧ cmE a b = 0 := fun h h' => by unfold cmI cmE okC'; rw [h, h']; exact ⟨rfl, rfl⟩
  have hbad : (vS a && vS b) = false → cmI a b = 0 ∧ cmE a b = 10 := fun h => by unfold cmI cmE okC'; rw [h]; exact ⟨rfl, rfl⟩
  have ea := @erS_ok' a; have eb := @erS_ok' b; have ea' := @erS_bad' a; have eb' := @erS_bad' b
  generalize cmI a b = CI at *
  generalize cmE a b = CE at *
  generalize unS a = la at *
  generalize unS b = lb at *
  generalize erS a = xa at *
  generalize erS b = xb at *
  generalize vS a = va at *
  generalize vS b = vb at *
  have HUA := hide hua; clear hua
  cases va with
  | false =>
    obtain ⟨rfl, rfl⟩ := hbad rfl
    obtain rfl := ea' rfl
    clear hbad hok ea ea' eb eb'
    go_enter Tryz.func56, Tryz.ntmps56
    go_wp2_with fail
    refine (unhide HUA).mono ?_
    rintro e w1 ⟨v1, rfl, hown1, hb1⟩
    go_wp2_with fail
    refine (unhide HUB w1).mono ?_
    rintro e w2 ⟨v2, rfl, hown2, hb2⟩
    go_wp2
    go_ret2
    exact ⟨rfl, hb1.trans (hb2.mono hb1.size)⟩
  | true =>
    obtain rfl := ea rfl
    cases vb with
    | false =>
      obtain ⟨rfl, rfl⟩ := hbad rfl
      obtain rfl := eb' rfl
      clear hbad hok ea ea' eb eb'
      go_enter Tryz.func56, Tryz.ntmps56
      go_wp2_with fail
      refine (unhide HUA).mono ?_
      rintro e w1 ⟨v1, rfl, hown1, hb1⟩
      go_wp2_with fail
      refine (unhide HUB w1).mono ?_
      rintro e w2 ⟨v2, rfl, hown2, hb2⟩
      go_wp2
      go_ret2
      exact ⟨rfl, hb1.trans (hb2.mono hb1.size)⟩
    | true =>
      obtain rfl := eb rfl
      obtain ⟨rfl, rfl⟩ := hok rfl rfl
      clear hbad hok ea ea' eb eb'
      go_enter Tryz.func56, Tryz.ntmps56
      go_wp2_with fail
      refine (unhide HUA).mono ?_
      rintro e w1 ⟨v1, rfl, hown1, hb1⟩
      go_wp2_with fail
      refine (unhide HUB w1).mono ?_
      rintro e w2 ⟨v2, rfl, hown2, hb2⟩
      have hB2 := hb1.trans (hb2.mono hb1.size)
      obtain ⟨A, ca, rfl, hA⟩ := reads_open ((reads_own hown1).same hb2)
      obtain ⟨B, cb, rfl, hB⟩ := reads_open (reads_own hown2)
      have HA := hide hA; have HB := hide hB; clear hA hB
      go_wp2
      go_loopw [10] (fun i wr => ∃ (k n : Nat), i = .int .i64 (k : Nat) ∧ k ≤ la.length ∧ k ≤ lb.length ∧ M.cmpL la lb = M.cmpL (la.drop k) (lb.drop k) ∧ wr = w2.drewN n) (fun i _ => la.length - (intOf i).toNat)
      case atStart => exact ⟨0, 0, rfl, by omega, by omega, rfl, rfl⟩
      case round =>
        obtain ⟨k, n, rfl, hk, hkb, hc, rfl⟩ := hrel
        have HC := hide hc; clear hc
        have hBn : ∀ m, Below w.heap.size w (w2.drewN m) := fun m => hB2.trans (below_drewN' _ _ _)
        have HBN := hide hBn; clear hBn
        by_cases hlt : k < la.length ∧ k < lb.length
        · obtain ⟨h1, h2⟩ := hlt
          have h1' : (k : Int) < (la.length : Int) := by omega
          have h2' : (k : Int) < (lb.length : Int) := by omega
          have hk0 : (0 : Int) ≤ (k : Int) := by omega
          obtain ⟨b, off, rfl, _, hca⟩ := unhide HA k h1
          obtain ⟨b', off', rfl, _, hcb⟩ := unhide HB k h2
          have HDA := hide (drop_getD la k h1)
          have HDB := hide (drop_getD lb k h2)
          generalize la.getD k 0 = x at *
          generalize lb.getD k 0 = y at *
          have hst : M.cmpL la lb = if x < y then -1 else if y < x then 1 else M.cmpL (la.drop (k + 1)) (lb.drop (k + 1)) := by
            rw [unhide HC, unhide HDA, unhide HDB]; rfl
          have HST := hide hst; clear hst
          by_cases c1 : x < y
          · have c1' : (x : Int) < (y : Int) := by omega
            go_wp2
            go_quiet (fail)
            go_wp2
            go_ret2
            refine ⟨?_, hB2.trans ((below_drewN' _ _ _).trans (below_drewN' _ _ _))⟩
            rw [unhide HST, if_pos c1]; rfl
          · by_cases c2 : y < x
            · have c1' : ¬ (x : Int) < (y : Int) := by omega
              have c2' : (y : Int) < (x : Int) := by omega
              go_wp2
              go_quiet (fail)
              go_wp2
              go_quiet (fail)
              go_wp2
              go_ret2
              refine ⟨?_, hB2.trans ((below_drewN' _ _ _).trans ((below_drewN' _ _ _).trans (below_drewN' _ _ _)))⟩
              rw [unhide HST, if_neg c1, if_pos c2]; rfl
            · have c1' : ¬ (x : Int) < (y : Int) := by omega
              have c2' : ¬ (y : Int) < (x : Int) := by omega
              go_wp2
              go_quiet (fail)
              go_wp2
              go_quiet (fail)
              go_wp2
              refine ⟨⟨k + 1, _, by go_num, by omega, by omega, by rw [unhide HST, if_neg c1, if_neg c2], rfl⟩, by simp [intOf]; omega⟩
        · by_cases h1 : k < la.length
          · have h1' : (k : Int) < (la.length : Int) := by omega
            have h2' : ¬ (k : Int) < (lb.length : Int) := by omega
            have h3 : ¬ (la.length : Int) < (lb.length : Int) := by omega
            have h4 : (lb.length : Int) < (la.length : Int) := by omega
            have hfin : M.cmpL la lb = 1 := by rw [unhide HC, List.drop_of_length_le (by omega : lb.length ≤ k), drop_getD la k h1]; rfl
            have HF := hide hfin; clear hfin hlt
            go_wp2
            go_ret2
            refine ⟨?_, hB2.trans (below_drewN' _ _ _)⟩
            rw [unhide HF]; rfl
          · have h1' : ¬ (k : Int) < (la.length : Int) := by omega
            by_cases h2 : k < lb.length
            · have h3 : (la.length : Int) < (lb.length : Int) := by omega
              have hfin : M.cmpL la lb = -1 := by rw [unhide HC, List.drop_of_length_le (by omega : la.length ≤ k), drop_getD lb k h2]; rfl
              have HF := hide hfin; clear hfin hlt
              go_wp2
              go_ret2
              refine ⟨?_, hB2.trans (below_drewN' _ _ _)⟩
              rw [unhide HF]; rfl
            · have h3 : ¬ (la.length : Int) < (lb.length : Int) := by omega
              have h4 : ¬ (lb.length : Int) < (la.length : Int) := by omega
              have hfin : M.cmpL la lb = 0 := by rw [unhide HC, List.drop_of_length_le (by omega : la.length ≤ k), List.drop_of_length_le (by omega : lb.length ≤ k)]; rfl
              have HF := hide hfin; clear hfin hlt
              go_wp2
              go_ret2
              refine ⟨?_, hB2.trans (below_drewN' _ _ _)⟩
              rw [unhide HF]; rfl
theorem un_ok {a : ByteArray} (h : vS a = true) : nums a = M.ofL (unS a) := by
  unfold unS; rw [h, if_pos rfl]
  rcases M.valid_ref (nums a) (nums_lt a) with ⟨_, u, h2, h3, _⟩ | ⟨h1, _⟩
  · unfold rdL; rw [h2]; exact h3.symm
  · unfold vS at h; rw [h] at h1; cases h1
theorem un_inj {a b : ByteArray} (ha : vS a = true) (hb : vS b = true) (h : unS a = unS b) : a = b :=
  nums_inj (by rw [un_ok ha, un_ok hb, h])
end Go.Proofs.YtkpfikeggleenaaGreatDoor
