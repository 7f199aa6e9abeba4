import Derived.Test.YtpbdidnphkkenaaGreatDoorQn
import Derived.Test.YtpbdidnphkkenaaGreatDoorQo
import Derived.Test.YtpbdidnphkkenaaGreatDoorQp
import Derived.Sort.LotA
import Derived.Sort.LotB
import Derived.Sort.LotD3
import Derived.Deep.CutRange
set_option linter.all false
namespace Go.Proofs.YtpbdidnphkkenaaGreatDoor
section
open Go Go.Proofs Go.RowKit Go.Sort
theorem swoN : SWO ltN where
  irrefl x := by simp [ltN]
  trans x y z h1 h2 := by simp [ltN] at *; omega
  ntrans x y z h1 h2 := by simp [ltN] at *; omega
/-- What stands when [a', b') of d1 is still to be sorted. -/
structure Todo (a b a' b' : Nat) (d d1 : Array Nat) : Prop where
  size : d1.size = d.size
  low : Sort.Below ltN a' b' d1
  fin : ∀ R, PermIn a' b' d1 R → SortedIn ltN a' b' R → PermIn a b d R ∧ SortedIn ltN a b R
theorem Todo.perm {a b a' b' : Nat} {d d1 d2 : Array Nat} (h : Todo a b a' b' d d1) (hb : b' ≤ d.size) (hp : PermIn a' b' d1 d2) : Todo a b a' b' d d2 :=
  ⟨hp.1.trans h.size, h.low.perm (by rw [h.size]; exact hb) hp, fun R h1 h2 => h.fin R (permIn_trans d1 d2 R a' b' hp h1) h2⟩
/-- The world after some of pdqsort's work: the row holds d1. -/
def At (w : World) (blk : Nat) (d1 : Array Nat) (X : World) : Prop := LiesU X blk d1 ∧ w.grownBy X (some blk)
theorem At.next {w X Y : World} {blk : Nat} {d1 d2 : Array Nat} (h : At w blk d1 X) (hL : LiesU Y blk d2) (hg : X.grownBy Y (some blk)) : At w blk d2 Y := ⟨hL, gb_trans h.2 hg⟩
theorem At.none {w X Y : World} {blk : Nat} {d1 : Array Nat} (h : At w blk d1 X) (hg : X.grownBy Y none) : At w blk d1 Y :=
  ⟨h.1.gb hg (by simp), ⟨hg.os.trans h.2.os, hg.tape.trans h.2.tape, hg.output.trans h.2.output, Nat.le_trans h.2.size hg.size, fun c hc hne => (hg.block c (Nat.lt_of_lt_of_le hc h.2.size) (by simp)).trans (h.2.block c hc hne)⟩⟩
theorem At.drew {w X : World} {blk : Nat} {d1 : Array Nat} (h : At w blk d1 X) (n : Nat) : At w blk d1 (X.drewN n) := ⟨h.1.drew n, gb_drew h.2 n⟩
theorem todo_eq {a b a' b' p mid : Nat} {d d1 d4 : Array Nat} (h : Todo a b a' b' d d1) (hb : b' ≤ d.size) (ha0 : 0 < a') (hp1 : a' ≤ p) (hp2 : p < b') (hnl : ltN d1[a' - 1]! d1[p]! = false) (hx : partitionEqual ltN d1 a' b' p = (mid, d4)) :
    a' < mid ∧ mid ≤ b' ∧ Todo a b mid b' d d4 := by
  obtain ⟨g1, g2, g3, g4, g5⟩ := round_eq swoN (partitionEqual_holds ltN) ha0 hp1 hp2 (by rw [h.size]; exact hb) h.low hnl hx
  exact ⟨g1, g2, ⟨g3.trans h.size, g4, fun R h1 h2 => h.fin R (g5 R h1 h2).1 (g5 R h1 h2).2⟩⟩
theorem todo_part {a b a' b' p mid : Nat} {ap : Bool} {d d1 d4 : Array Nat} (h : Todo a b a' b' d d1) (hb : b' ≤ d.size) (hp1 : a' ≤ p) (hp2 : p < b') (hx : partition ltN d1 a' b' p = (mid, ap, d4)) :
    a' ≤ mid ∧ mid < b' ∧ d4.size = d.size ∧ Sort.Below ltN a' mid d4 ∧ Sort.Below ltN (mid + 1) b' d4 ∧ (∀ L, PermIn a' mid d4 L → SortedIn ltN a' mid L → Todo a b (mid + 1) b' d L) ∧ (∀ L, PermIn (mid + 1) b' d4 L → SortedIn ltN (mid + 1) b' L → Todo a b a' mid d L) := by
  obtain ⟨g1, g2, g3, g4, g5, g6, g7⟩ := round_part swoN (partition_holds ltN) hp1 hp2 (by rw [h.size]; exact hb) h.low hx
  refine ⟨g1, g2, g3.trans h.size, g4, g5, fun L h1 h2 => ?_, fun L h1 h2 => ?_⟩
  · obtain ⟨k1, k2⟩ := g6 L h1 h2
    exact ⟨h1.1.trans (g3.trans h.size), k1, fun R r1 r2 => h.fin R (k2 R r1 r2).1 (k2 R r1 r2).2⟩
  · obtain ⟨k1, k2⟩ := g7 L h1 h2
    exact ⟨h1.1.trans (g3.trans h.size), k1, fun R r1 r2 => h.fin R (k2 R r1 r2).1 (k2 R r1 r2).2⟩
def PdqP (blk : Nat) (n : Nat) : Prop := ∀ (cap a b lim : Nat) (d : Array Nat) (w : World), b - a < n → LiesU w blk d → a ≤ b → b ≤ d.size → d.size ≤ 1500000 → lim ≤ 64 → Sort.Below ltN a b d →
  Calls Tryz.prog 74 #[.slice (some ⟨blk, 0, none⟩) d.size cap, .int .i64 a, .int .i64 b, .int .i64 lim] w fun e w' => e = .returned (.tuple #[]) ∧ ∃ d', PermIn a b d d' ∧ SortedIn ltN a b d' ∧ LiesU w' blk d' ∧ w.grownBy w' (some blk)
set_option maxHeartbeats 16000000 in
set_option maxRecDepth 100000 in
theorem pdq_step (blk n : Nat) (ih : PdqP blk n) : PdqP blk (n + 1) := by
  intro cap a b lim d w hn hL hab hb hsz hlim hBl
  have IH := hide ih
  have HL := hide hL
  have HB := hide hBl
  clear ih hL hBl
  go_enter Tryz.func74, Tryz.ntmps74
  go_wp2_with fail
  go_loopg [1, 2, 3, 8, 9] (b - a) (fun g s1 s2 s3 s8 s9 wr => ∃ (a' b' lm : Nat) (wb wp : Bool) (d1 : Array Nat), s1 = .int .i64 a' ∧ s2 = .int .i64 b' ∧ s3 = .int .i64 lm ∧ s8 = .bool wb ∧ s9 = .bool wp ∧ a' ≤ b' ∧ b' ≤ d.size ∧ b' - a' ≤ g ∧ b' - a' ≤ b - a ∧ lm ≤ 64 ∧ Hid (Todo a b a' b' d d1) ∧ Hid (At w blk d1 wr))
  case atStart => exact ⟨a, b, lim, true, true, d, rfl, rfl, rfl, rfl, rfl, hab, hb, Nat.le_refl _, Nat.le_refl _, hlim, hide ⟨rfl, unhide HB, fun R h1 h2 => ⟨h1, h2⟩⟩, hide ⟨unhide HL, gb_refl _ _⟩⟩
  case round =>
    obtain ⟨a', b', lm, wb, wp, d1, rfl, rfl, rfl, rfl, rfl, h1, h2, hg, h4, h5, hT, hA⟩ := hrel
    obtain ⟨l, hl⟩ : ∃ l, l = b' - a' := ⟨_, rfl⟩
    have z1 : IntKind.i64.wrap ((b' : Int) - a') = (l : Int) := by rw [IntKind.wrap_i64]; omega
    have hds := (unhide hT).size
    have HDS := hide hds
    by_cases h12 : l ≤ 12
    · have HC := hide (insertion61 blk cap a' b' d1 wr (unhide hA).1 h1 (by omega) (by omega))
      rw [hds] at HC
      have HP := hide (insertionSort_holds (lt := ltN) swoN d1 a' b' h1 (by omega))
      have z2 : (l : Int) ≤ 12 := by omega
      clear hds hl
      go_wp2_with fail
      refine (unhide HC).mono ?_
      rintro e w1 ⟨rfl, hL1, hG1⟩
      have HF := hide (And.intro hL1 (gb_trans (unhide hA).2 hG1))
      clear hL1 hG1
      go_wp2
      (try simp only [Exit.inBlock, Exit.then])
      refine bodyPost_ret (results_none rfl _ _ _) rfl ?_
      have hf := (unhide hT).fin _ (unhide HP).1 (unhide HP).2
      exact ⟨rfl, _, hf.1, hf.2, (unhide HF).1, (unhide HF).2⟩
    · by_cases hl0 : lm = 0
      · subst hl0
        have HC := hide (heap62 blk cap a' b' d1 wr (unhide hA).1 (by omega) (by omega) (by omega))
        rw [hds] at HC
        have HP := hide (heapSort_holds (lt := ltN) swoN d1 a' b' h1 (by omega))
        have z2 : ¬ (l : Int) ≤ 12 := by omega
        clear hds hl
        go_wp2_with fail
        refine (unhide HC).mono ?_
        rintro e w1 ⟨rfl, hL1, hG1⟩
        have HF := hide (And.intro hL1 (gb_trans (unhide hA).2 hG1))
        clear hL1 hG1
        go_wp2
        (try simp only [Exit.inBlock, Exit.then])
        refine bodyPost_ret (results_none rfl _ _ _) rfl ?_
        have hf := (unhide hT).fin _ (unhide HP).1 (unhide HP).2
        exact ⟨rfl, _, hf.1, hf.2, (unhide HF).1, (unhide HF).2⟩
      · have z2 : ¬ (l : Int) ≤ 12 := by omega
        have z3 : ¬ (lm : Int) = 0 := by omega
        have z3' : ((lm : Int) == 0) = false := by simp; omega
        have HLl := hide hl
        have hlen : a' + 13 ≤ b' := by omega
        clear hds hl
        go_upto_if 35 with fail
        go_cut [3] from 19 to 133 (fun s3 X => ∃ (lm2 : Nat) (d2 : Array Nat), s3 = .int .i64 lm2 ∧ lm2 ≤ 64 ∧ Hid (Todo a b a' b' d d2) ∧ Hid (At w blk d2 X))
        case first =>
          cases wb
          · have HC := hide (break63 blk cap a' b' d1 wr (unhide hA).1 (by omega) (by have := unhide HDS; omega) (by have := unhide HDS; omega))
            rw [unhide HDS] at HC
            have z4 : IntKind.i64.wrap ((lm : Int) - 1) = ((lm - 1 : Nat) : Int) := by rw [IntKind.wrap_i64]; omega
            go_wp2_with fail
            refine (unhide HC).mono ?_
            rintro e w1 ⟨rfl, d2, hP2, hL2, hG2⟩
            have HT2 := hide ((unhide hT).perm h2 hP2)
            have HA2 : Hid (At w blk d2 w1) := hide ⟨hL2, gb_trans (unhide hA).2 hG2⟩
            clear hP2 hL2 hG2
            go_wp2
            go_meet
            case rel => exact ⟨lm - 1, d2, by go_num, by omega, HT2, HA2⟩
          · go_wp2
            go_meet
            case rel => exact ⟨lm, d1, rfl, h5, hT, hA⟩
        case rest =>
          obtain ⟨lm2, d2, rfl, h6, hT2, hA2⟩ := hcut
          clear hT hA
          have HC := hide (pivot64 blk cap a' b' d2 wc (unhide hA2).1 (by omega) (by have := (unhide hT2).size; omega) (by have := (unhide hT2).size; omega))
          rw [(unhide hT2).size] at HC
          go_wp2_with fail
          refine (unhide HC).mono ?_
          rintro e w2 ⟨p, hint, rfl, hp1, hp2, hh, hG2⟩
          have hA3 := hide ((unhide hA2).none hG2)
          clear hG2 HC hA2
          go_upto_if 50 with fail
          go_cut [11, 12] from 19 to 133 (fun s11 s12 X => ∃ (p3 h3 : Nat) (d3 : Array Nat), s11 = .int .i64 p3 ∧ s12 = .int .i64 h3 ∧ a' ≤ p3 ∧ p3 < b' ∧ h3 ≤ 1 ∧ Hid (Todo a b a' b' d d3) ∧ Hid (At w blk d3 X))
          case first =>
            by_cases hh2 : hint = 2
            · subst hh2
              have HC := hide (reverse65 blk cap a' b' d2 w2 (unhide hA3).1 (by omega) (by have := (unhide hT2).size; omega) (by have := (unhide hT2).size; omega))
              rw [(unhide hT2).size] at HC
              have HT3 := hide ((unhide hT2).perm h2 (reverseRange_holds d2 a' b' h1 (by have := (unhide hT2).size; omega)))
              obtain ⟨e1, he1⟩ : ∃ e, e = b' - 1 := ⟨_, rfl⟩
              obtain ⟨e2, he2⟩ : ∃ e, e = p - a' := ⟨_, rfl⟩
              obtain ⟨e3, he3⟩ : ∃ e, e = e1 - e2 := ⟨_, rfl⟩
              have y1 : IntKind.i64.wrap ((b' : Int) - 1) = (e1 : Int) := by rw [IntKind.wrap_i64]; omega
              have y2 : IntKind.i64.wrap ((p : Int) - a') = (e2 : Int) := by rw [IntKind.wrap_i64]; omega
              have y3 : IntKind.i64.wrap ((e1 : Int) - e2) = (e3 : Int) := by rw [IntKind.wrap_i64]; omega
              have hr3 := hide (show a' ≤ e3 ∧ e3 < b' by omega)
              clear he1 he2 he3
              go_wp2_with fail
              refine (unhide HC).mono ?_
              rintro e w3 ⟨rfl, hL3, hG3⟩
              have HA3 := hide ((unhide hA3).next hL3 hG3)
              clear hL3 hG3
              go_wp2
              go_meet
              case rel => exact ⟨e3, 1, _, rfl, rfl, (unhide hr3).1, (unhide hr3).2, by omega, HT3, HA3⟩
            · have y1 : ¬ (hint : Int) = 2 := by omega
              have y2 : ((hint : Int) == 2) = false := by simp; omega
              go_wp2
              go_meet
              case rel => exact ⟨p, hint, d2, rfl, rfl, hp1, hp2, by omega, hT2, hA3⟩
          case rest =>
            clear hT2 hA3 hp1 hp2 hh
            obtain ⟨p3, h3, d3, rfl, rfl, hq1, hq2, hh1, hT3, hA3⟩ := hcut
            obtain ⟨w3, hw3⟩ : ∃ z, z = wc := ⟨_, rfl⟩
            subst hw3
            go_upto_region 15 with fail
            go_cut [12, 68] from 19 to 133 (fun s12 s68 X => s12 = .int .i64 h3 ∧ s68 = .bool (wb && wp && decide (h3 = 1)) ∧ Hid (X = w3))
            case first =>
              have h01 : h3 = 0 ∨ h3 = 1 := by omega
              rcases h01 with rfl | rfl
              all_goals
                cases wb
                all_goals
                  cases wp
                  all_goals
                    go_wp2
                    go_meet
                    case rel => exact ⟨rfl, rfl, hide rfl⟩
            case rest =>
              obtain ⟨rfl, rfl, hX⟩ := hcut
              have hX' := unhide hX
              subst hX'
              clear hX
              go_upto_if 68 with fail
              go_cut [] from 19 to 133 (fun X => ∃ d4 : Array Nat, Hid (Todo a b a' b' d d4) ∧ Hid (At w blk d4 X))
              case first =>
                generalize (wb && wp && decide (h3 = 1)) = c at *
                cases c
                · go_wp2
                  go_meet
                  case rel => exact ⟨d3, hT3, hA3⟩
                · have HC := hide (partins66 blk cap a' b' d3 wc (unhide hA3).1 (by omega) (by have := (unhide hT3).size; omega) (by have := (unhide hT3).size; omega))
                  rw [(unhide hT3).size] at HC
                  have HP := hide (partialInsertionSort_holds (lt := ltN) swoN d3 a' b' (by omega) (by have := (unhide hT3).size; omega) (unhide hT3).low)
                  generalize hpi : partialInsertionSort ltN d3 a' b' = pr at *
                  obtain ⟨d4, fl⟩ := pr
                  clear hpi
                  dsimp only at HC HP
                  cases fl
                  · go_wp2_with fail
                    refine (unhide HC).mono ?_
                    rintro e w4 ⟨rfl, hL4, hG4⟩
                    have HA4 := hide ((unhide hA3).next hL4 hG4)
                    have HT4 := hide ((unhide hT3).perm h2 (unhide HP).1)
                    clear hL4 hG4
                    go_wp2
                    go_meet
                    case rel => exact ⟨d4, HT4, HA4⟩
                  · go_wp2_with fail
                    refine (unhide HC).mono ?_
                    rintro e w4 ⟨rfl, hL4, hG4⟩
                    have HA4 := hide ((unhide hA3).next hL4 hG4)
                    have HF := hide ((unhide hT3).fin d4 (unhide HP).1 ((unhide HP).2 trivial))
                    clear hL4 hG4
                    go_wp2
                    (try simp only [Exit.inBlock, Exit.then])
                    refine bodyPost_ret (results_none rfl _ _ _) rfl ?_
                    exact ⟨rfl, d4, (unhide HF).1, (unhide HF).2, (unhide HA4).1, (unhide HA4).2⟩
              case rest =>
                obtain ⟨w4, hw4⟩ : ∃ z, z = wc := ⟨_, rfl⟩
                clear hT3 hA3
                obtain ⟨d4, hT4, hA4⟩ := hcut
                rw [← hw4] at hA4 ⊢
                clear hw4
                have hds := (unhide hT4).size
                have HL4 := hide hds
                have hll := unhide HLl
                by_cases hE : 0 < a' ∧ ltN d4[a' - 1]! d4[p3]! = false
                · obtain ⟨u, hu⟩ : ∃ u, u = a' - 1 := ⟨_, rfl⟩
                  obtain ⟨c1, f1⟩ := (unhide hA4).1.cell u (by omega)
                  obtain ⟨c2, f2⟩ := (unhide hA4).1.cell p3 (by omega)
                  have HCl := hide (less67 d4[u]! d4[p3]!)
                  have hr : ltN d4[u]! d4[p3]! = false := by rw [hu]; exact hE.2
                  have y1 : (0 : Int) < a' := by omega
                  have y2 : IntKind.i64.wrap ((a' : Int) - 1) = (u : Int) := by rw [IntKind.wrap_i64]; omega
                  have y3 : (u : Int) < d.size := by omega
                  have y4 : (p3 : Int) < d.size := by omega
                  rw [hr] at HCl
                  have HC := hide (fun X hX => parteq68 blk cap a' b' p3 d4 X hX hq1 hq2 (by omega) (by omega))
                  rw [hds] at HC
                  have HE := hide (fun mid d5 => todo_eq (mid := mid) (d4 := d5) (unhide hT4) h2 hE.1 hq1 hq2 hE.2)
                  generalize hpq : partitionEqual ltN d4 a' b' p3 = pr at *
                  obtain ⟨mid, d5⟩ := pr
                  have HR := hide (unhide HE mid d5 rfl)
                  clear hpq HE hE hr hds hu hll
                  dsimp only at HC
                  generalize d4[u]! = xv at *
                  generalize d4[p3]! = yv at *
                  go_wp2_with fail
                  have y5 : decide ((0 : Int) < a') = true := decide_eq_true (by omega)
                  have y6 : 0 < a' := by omega
                  have y7 : decide (0 < a') = true := decide_eq_true y6
                  go_quiet ((go_at_call 91; refine (unhide HCl _).mono ?_; rintro e w9 ⟨rfl, rfl⟩; exact ⟨rfl, _, rfl⟩))
                  go_wp2_with fail
                  refine (unhide HC _ ((unhide hA4).drew _).1).mono ?_
                  rintro e w5 ⟨rfl, hL5, hG5⟩
                  have HA5 := hide (((unhide hA4).drew _).next hL5 hG5)
                  clear hL5 hG5
                  go_wp2
                  go_roundg (b' - mid)
                  case measure => (have := unhide HR; have := unhide HLl; omega)
                  case rel => exact ⟨mid, b', lm2, wb, wp, d5, rfl, rfl, rfl, rfl, rfl, (unhide HR).2.1, h2, Nat.le_refl _, by have := unhide HR; omega, h6, hide (unhide HR).2.2, HA5⟩
                · have hE' : a' = 0 ∨ (0 < a' ∧ ltN d4[a' - 1]! d4[p3]! = true) := by
                    rcases Nat.eq_zero_or_pos a' with e | e
                    · exact .inl e
                    · refine .inr ⟨e, ?_⟩
                      cases hr : ltN d4[a' - 1]! d4[p3]!
                      · exact absurd ⟨e, hr⟩ hE
                      · rfl
                  have HC := hide (fun X hX => part69 blk cap a' b' p3 d4 X hX hq1 hq2 (by omega) (by omega))
                  rw [hds] at HC
                  have HE := hide (fun mid ap d5 => todo_part (mid := mid) (ap := ap) (d4 := d5) (unhide hT4) h2 hq1 hq2)
                  generalize hpq : partition ltN d4 a' b' p3 = pr at *
                  obtain ⟨mid, ap, d5⟩ := pr
                  have HR := hide (unhide HE mid ap d5 rfl)
                  clear hpq HE hE
                  dsimp only at HC
                  obtain ⟨x1, hx1⟩ : ∃ x, x = mid - a' := ⟨_, rfl⟩
                  obtain ⟨x2, hx2⟩ : ∃ x, x = b' - mid := ⟨_, rfl⟩
                  obtain ⟨x8, hx8⟩ : ∃ x, x = l / 8 := ⟨_, rfl⟩
                  have hrr := unhide HR
                  have v1 : IntKind.i64.wrap ((mid : Int) - a') = (x1 : Int) := by rw [IntKind.wrap_i64]; omega
                  have v2 : IntKind.i64.wrap ((b' : Int) - mid) = (x2 : Int) := by rw [IntKind.wrap_i64]; omega
                  have v3 : (l : Int).tdiv 8 = (x8 : Int) := by rw [Int.tdiv_eq_ediv_of_nonneg (by omega)]; omega
                  have v3' : (l : Int) / 8 = (x8 : Int) := by omega
                  have v4 : IntKind.i64.wrap ((mid : Int) + 1) = ((mid + 1 : Nat) : Int) := by rw [IntKind.wrap_i64]; omega
                  have v5 : IntKind.i64.wrap (x8 : Int) = (x8 : Int) := by rw [IntKind.wrap_i64]; omega
                  have HXX := hide (And.intro hx1 (And.intro hx2 hx8))
                  have HI1 := hide (fun X hX => unhide IH cap a' mid lm2 d5 X (by omega) hX (by omega) (by omega) (by omega) h6 hrr.2.2.2.1)
                  have HI2 := hide (fun X hX => unhide IH cap (mid + 1) b' lm2 d5 X (by omega) hX (by omega) (by omega) (by omega) h6 hrr.2.2.2.2.1)
                  rw [hrr.2.2.1] at HI1 HI2
                  clear hx1 hx2 hx8 hrr hll
                  rcases hE' with hE' | hE'
                  all_goals
                    first
                    | (have hz0 : a' = 0 := hE'
                       have HZ0 := hide hz0
                       clear hds hz0 hE'
                       go_wp2_with fail
                       have y5 : decide ((0 : Int) < a') = false := decide_eq_false (by have := unhide HZ0; omega)
                       have y6 : ¬ 0 < a' := (by have := unhide HZ0; omega)
                       have y7 : decide (0 < a') = false := decide_eq_false y6
                       go_quiet (fail)
                       clear y5 y6 y7)
                    | (obtain ⟨u, hu⟩ : ∃ u, u = a' - 1 := ⟨_, rfl⟩
                       obtain ⟨c1, f1⟩ := (unhide hA4).1.cell u (by omega)
                       obtain ⟨c2, f2⟩ := (unhide hA4).1.cell p3 (by omega)
                       have HCl := hide (less67 d4[u]! d4[p3]!)
                       have hr : ltN d4[u]! d4[p3]! = true := (by rw [hu]; exact hE'.2)
                       have y2 : IntKind.i64.wrap ((a' : Int) - 1) = (u : Int) := (by rw [IntKind.wrap_i64]; omega)
                       have y3 : (u : Int) < d.size := (by omega)
                       have y4 : (p3 : Int) < d.size := (by omega)
                       have hpos := hE'.1
                       rw [hr] at HCl
                       clear hE' hr hds hu
                       generalize d4[u]! = xv at *
                       generalize d4[p3]! = yv at *
                       go_wp2_with fail
                       have y5 : decide ((0 : Int) < a') = true := decide_eq_true (by omega)
                       have y6 : 0 < a' := (by omega)
                       have y7 : decide (0 < a') = true := decide_eq_true y6
                       go_quiet ((go_at_call 91; refine (unhide HCl _).mono ?_; rintro e w9 ⟨rfl, rfl⟩; exact ⟨rfl, _, rfl⟩))
                       clear HCl c1 c2 f1 f2 y2 y3 y4 y5 y6 y7)
                    go_wp2_with fail
                    refine (unhide HC _ ((unhide hA4).drew _).1).mono ?_
                    rintro e w5 ⟨rfl, hL5, hG5⟩
                    have HA5 := hide (((unhide hA4).drew _).next hL5 hG5)
                    clear hL5 hG5
                    by_cases hlr : x1 < x2
                    · have q1 : (x1 : Int) < x2 := by omega
                      go_wp2_with fail
                      refine (unhide HI1 w5 (unhide HA5).1).mono ?_
                      rintro e w6 ⟨rfl, d6, hP6, hS6, hL6, hG6⟩
                      have HA6 := hide ((unhide HA5).next hL6 hG6)
                      have HT6 := hide ((unhide HR).2.2.2.2.2.1 d6 hP6 hS6)
                      clear hP6 hS6 hL6 hG6
                      go_wp2
                      go_roundg (b' - (mid + 1))
                      case measure => (have := unhide HR; have := unhide HLl; omega)
                      case rel => exact ⟨mid + 1, b', lm2, _, ap, d6, by go_num, rfl, rfl, rfl, rfl, by have := unhide HR; omega, h2, Nat.le_refl _, by have := unhide HR; omega, h6, HT6, HA6⟩
                    · have q1 : ¬ (x1 : Int) < x2 := by omega
                      go_wp2_with fail
                      refine (unhide HI2 w5 (unhide HA5).1).mono ?_
                      rintro e w6 ⟨rfl, d6, hP6, hS6, hL6, hG6⟩
                      have HA6 := hide ((unhide HA5).next hL6 hG6)
                      have HT6 := hide ((unhide HR).2.2.2.2.2.2 d6 hP6 hS6)
                      clear hP6 hS6 hL6 hG6
                      go_wp2
                      go_roundg (mid - a')
                      case measure => (have := unhide HR; have := unhide HLl; omega)
                      case rel => exact ⟨_, mid, lm2, _, ap, d6, rfl, rfl, rfl, rfl, rfl, by have := unhide HR; omega, by have := unhide HR; omega, by omega, by have := unhide HR; omega, h6, HT6, HA6⟩
theorem pdq_all (blk : Nat) : ∀ n, PdqP blk n
  | 0 => fun _ _ _ _ _ _ h => by omega
  | n + 1 => pdq_step blk n (pdq_all blk n)
theorem bl_any (n : Nat) (h : n ≤ 1500000) : Lib.bitLen n ≤ 21 := by
  rcases Nat.lt_or_ge n 8 with h8 | h8
  · have : ∀ m : Fin 8, Lib.bitLen m.val ≤ 21 := by decide +kernel
    exact this ⟨n, h8⟩
  · exact (bl_le n h8 h).2.2
theorem sort31 (blk cap : Nat) (d : Array Nat) (w : World) (hL : LiesU w blk d) (hsz : d.size ≤ 1500000) :
    Calls Tryz.prog 61 #[.slice (some ⟨blk, 0, none⟩) d.size cap] w fun e w' => e = .returned (.tuple #[]) ∧ ∃ d', d'.toList = d.toList.mergeSort (fun x y => !ltN y x) ∧ LiesU w' blk d' ∧ w.grownBy w' (some blk) := by
  have HC := hide (Tryz.bits_Len (d.size : Int) w (by omega) (by omega))
  rw [Int.toNat_natCast] at HC
  have HP := hide (pdq_all blk (d.size + 1) cap 0 d.size (Lib.bitLen d.size) d w (by omega) hL (by omega) (Nat.le_refl _) hsz (by have := bl_any d.size hsz; omega) (.inl rfl))
  generalize Lib.bitLen d.size = k at *
  clear hL
  have z1 : IntKind.u64.wrap (d.size : Int) = (d.size : Int) := by simp [IntKind.wrap, IntKind.bits, IntKind.signed]; omega
  go_enter Tryz.func61, Tryz.ntmps61
  go_wp2_with fail
  refine (unhide HC).mono ?_
  rintro e w' ⟨rfl, rfl⟩
  go_wp2_with fail
  refine (unhide HP).mono ?_
  rintro e w1 ⟨rfl, d', hP, hS, hL1, hG1⟩
  have HF := hide (And.intro hL1 (And.intro hG1 (sorted_unique_holds (lt := ltN) swoN (fun x y h1 h2 => by simp [ltN] at *; omega) d d' hP hS)))
  clear hL1 hG1 hP hS
  go_wp2
  go_end0
  exact ⟨rfl, d', (unhide HF).2.2, (unhide HF).1, (unhide HF).2.1⟩
set_option maxRecDepth 100000 in
theorem insertion61_nil (w : World) : Calls Tryz.prog 85 #[.slice none 0 0, .int .i64 0, .int .i64 0] w fun e w' => e = .returned (.tuple #[]) ∧ w.grownBy w' none := by
  go_enter Tryz.func85, Tryz.ntmps85
  go_wp2_with fail
  go_loopg [6] 1 (fun g s6 wr => s6 = .int .i64 1 ∧ Hid (w.grownBy wr none))
  case atStart => exact ⟨by go_num, hide (gb_refl _ _)⟩
  case round =>
    obtain ⟨rfl, hGk⟩ := hrel
    go_wp2_with fail
    go_end0
    exact ⟨rfl, unhide hGk⟩
set_option maxRecDepth 100000 in
theorem pdq44_nil (k : Nat) (w : World) : Calls Tryz.prog 74 #[.slice none 0 0, .int .i64 0, .int .i64 0, .int .i64 k] w fun e w' => e = .returned (.tuple #[]) ∧ w.grownBy w' none := by
  have HI := hide (fun w => insertion61_nil w)
  go_enter Tryz.func74, Tryz.ntmps74
  go_wp2_with fail
  go_loopg [1, 2, 3, 8, 9] 1 (fun g s1 s2 s3 s8 s9 wr => s1 = .int .i64 0 ∧ s2 = .int .i64 0 ∧ s3 = .int .i64 k ∧ s8 = .bool true ∧ s9 = .bool true ∧ Hid (w.grownBy wr none))
  case atStart => exact ⟨rfl, rfl, rfl, rfl, rfl, hide (gb_refl _ _)⟩
  case round =>
    obtain ⟨rfl, rfl, rfl, rfl, rfl, hG⟩ := hrel
    go_wp2_with fail
    refine ((unhide HI) _).mono ?_
    rintro e w1 ⟨rfl, hG1⟩
    have HF := hide (gb_trans (unhide hG) hG1)
    clear hG1
    go_wp2
    (try simp only [Exit.inBlock, Exit.then])
    refine bodyPost_ret (results_none rfl _ _ _) rfl ?_
    exact ⟨rfl, unhide HF⟩
set_option maxRecDepth 100000 in
theorem sort31_nil (w : World) : Calls Tryz.prog 61 #[.slice none 0 0] w fun e w' => e = .returned (.tuple #[]) ∧ w.grownBy w' none := by
  have HC := hide (Tryz.bits_Len (0 : Int) w (by omega) (by omega))
  have HP := hide (fun k => pdq44_nil k w)
  generalize Lib.bitLen (0 : Int).toNat = k at *
  go_enter Tryz.func61, Tryz.ntmps61
  go_wp2_with fail
  refine (unhide HC).mono ?_
  rintro e w' ⟨rfl, rfl⟩
  go_wp2_with fail
  refine ((unhide HP) k).mono ?_
  rintro e w1 ⟨rfl, hG1⟩
  have HF := hide hG1
  clear hG1
  go_wp2
  go_end0
  exact ⟨rfl, unhide HF⟩
