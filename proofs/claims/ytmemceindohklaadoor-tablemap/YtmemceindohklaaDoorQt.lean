import Derived.Test.YtmemceindohklaaDoorQs
import Derived.Test.YtmemceindohklaaDoorQa

/-! Kg -/
namespace Go.Proofs.YtmemceindohklaaDoor
open Go Go.Proofs Go.RowKit Go.Sort
set_option linter.unusedSimpArgs false
set_option linter.unusedVariables false
theorem part_eq (d : Array Nat) (a b p i2 j2 : Nat) (d1 : Array Nat) (h0 : d1 = swp d a p) (h1 : scanUp (fun x => ltN x d1[a]!) d1 (b - 1) (a + 1) = i2) (h2 : scanDown (fun x => !ltN x d1[a]!) d1 i2 (b - 1) = j2) :
    partition ltN d a b p = if i2 > j2 then (j2, true, swp d1 j2 a) else ((partLoop ltN a (i2 + 1) (j2 - 1) (swp d1 i2 j2)).1, false, swp (partLoop ltN a (i2 + 1) (j2 - 1) (swp d1 i2 j2)).2 (partLoop ltN a (i2 + 1) (j2 - 1) (swp d1 i2 j2)).1 a) := by
  subst h0
  unfold partition
  simp only [h1, h2]
set_option maxHeartbeats 8000000 in
set_option maxRecDepth 100000 in
theorem part69 (blk cap a b p : Nat) (d : Array Nat) (w : World) (hL : LiesU w blk d) (hap : a ≤ p) (hpb : p < b) (hb : b ≤ d.size) (hsz : d.size ≤ 3000) :
    Calls Tryd.prog 65 #[.slice (some ⟨blk, 0, none⟩) d.size cap, .int .i64 a, .int .i64 b, .int .i64 p] w fun e w' => e = .returned (.tuple #[.int .i64 ((partition ltN d a b p).1 : Nat), .bool (partition ltN d a b p).2.1]) ∧ LiesU w' blk (partition ltN d a b p).2.2 ∧ w.grownBy w' (some blk) := by
  obtain ⟨c1, f1⟩ := hL.cell a (by omega)
  obtain ⟨c2, f2⟩ := hL.cell p (by omega)
  have HSw := hide (fun n => (hL.drew n).swap a p (by omega) (by omega))
  clear hL
  have z1 : (a : Int) < d.size := by omega
  have z2 : (p : Int) < d.size := by omega
  have z3 : IntKind.i64.wrap ((a : Int) + 1) = ((a + 1 : Nat) : Int) := by rw [IntKind.wrap_i64]; omega
  have z4 : IntKind.i64.wrap ((b : Int) - 1) = ((b - 1 : Nat) : Int) := by rw [IntKind.wrap_i64]; omega
  have HD := hide (fun i2 j2 => part_eq d a b p i2 j2 (swp d a p) rfl)
  have HZ := hide (swp_size d a p)
  generalize partition ltN d a b p = res at *
  generalize swp d a p = d1 at *
  have hcase := Classical.em (a = p)
  rcases hcase with hne | hne
  all_goals
    first
    | (subst hne
       generalize d[a]! = x at *
       go_enter Tryd.func65, Tryd.ntmps65
       go_wp2_with fail
       go_region
       all_goals go_wp2_with fail
       obtain ⟨wr, hX⟩ : ∃ X, X = ((w.setCell ⟨blk, a, none⟩ (.int .u32 (x : Nat))).setCell ⟨blk, a, none⟩ (.int .u32 (x : Nat))).drew := ⟨_, rfl⟩
       rw [← hX]
       have hLk : Hid (LiesU wr blk d1) := hide (by rw [hX]; exact LiesU.grown (unhide HSw 0) rfl)
       have hGk : Hid (w.grownBy wr (some blk)) := hide (by rw [hX]; exact (have g0 := gb_swap w blk a a _ _; ⟨g0.os, g0.tape, g0.output, g0.size, g0.block⟩))
       clear hX)
    | (have n1 : ¬ p = a := (by omega)
       generalize d[a]! = x at *
       generalize d[p]! = y at *
       go_enter Tryd.func65, Tryd.ntmps65
       go_wp2_with fail
       go_region
       all_goals go_wp2_with fail
       obtain ⟨wr, hX⟩ : ∃ X, X = ((w.setCell ⟨blk, a, none⟩ (.int .u32 (y : Nat))).setCell ⟨blk, p, none⟩ (.int .u32 (x : Nat))).drew := ⟨_, rfl⟩
       rw [← hX]
       have hLk : Hid (LiesU wr blk d1) := hide (by rw [hX]; exact LiesU.grown (unhide HSw 0) rfl)
       have hGk : Hid (w.grownBy wr (some blk)) := hide (by rw [hX]; exact (have g0 := gb_swap w blk a p _ _; ⟨g0.os, g0.tape, g0.output, g0.size, g0.block⟩))
       clear hX)
    clear c1 c2 f1 f2 HSw
    obtain ⟨i, hi⟩ : ∃ i, i = a + 1 := ⟨_, rfl⟩
    obtain ⟨j, hj⟩ : ∃ j, j = b - 1 := ⟨_, rfl⟩
    obtain ⟨dk, hdk⟩ : ∃ dk, dk = d1 := ⟨_, rfl⟩
    have ei : (a : Int) + 1 = (i : Int) := by omega
    try rw [ei]
    rw [← hj]
    rw [← hdk] at hLk HZ
    have hsk := HZ
    have hai : a + 1 ≤ i := by omega
    have hib : i ≤ b := by omega
    have hjb : j < b := by omega
    have haj : a ≤ j := by omega
    have HIJ := hide (And.intro hi (And.intro hj hdk))
    clear hi hj hdk z3 z4 ei
    obtain ⟨w0, hw0⟩ : ∃ w0, w0 = wr := ⟨wr, rfl⟩
    subst hw0
    go_wp2_with fail
    go_loopg [10] (d.size + 1) (fun g s wr => ∃ i2 : Nat, s = .int .i64 i2 ∧ i ≤ i2 ∧ i2 ≤ d.size ∧ (i2 ≤ j + 1 ∨ i2 = i) ∧ d.size + 1 - i2 ≤ g ∧ Hid (LiesU wr blk dk) ∧ Hid (w.grownBy wr (some blk)) ∧ Hid (scanUp (fun x => ltN x dk[a]!) dk j i2 = scanUp (fun x => ltN x dk[a]!) dk j i))
    case atStart => exact ⟨i, rfl, Nat.le_refl _, by omega, .inr rfl, by omega, hLk, hGk, hide rfl⟩
    case round =>
      obtain ⟨i2, rfl, hi1, hi2, hi3, hgi, hLi, hGi, hSi⟩ := hrel
      have hds := unhide hsk
      by_cases hcont : i2 ≤ j ∧ ltN dk[i2]! dk[a]! = true
      · obtain ⟨c1, f1⟩ := (unhide hLi).cell a (by omega)
        obtain ⟨c2, f2⟩ := (unhide hLi).cell i2 (by omega)
        have HE := hide (su_go (fun x => ltN x dk[a]!) dk j i2 hcont.1 (by simp [hcont.2]))
        have HC := hide (less67 dk[i2]! dk[a]!)
        have y1 : (i2 : Int) ≤ j := by omega
        have y2 : (i2 : Int) < d.size := by omega
        have y3 : IntKind.i64.wrap ((i2 : Int) + 1) = ((i2 + 1 : Nat) : Int) := by rw [IntKind.wrap_i64]; omega
        rw [hcont.2] at HC
        have hle := hcont.1
        clear hds hcont
        generalize dk[a]! = pv at *
        generalize dk[i2]! = xv at *
        go_wp2_with fail
        go_quiet ((go_at_call 63; refine (unhide HC _).mono ?_; rintro e w9 ⟨rfl, rfl⟩; exact ⟨rfl, _, rfl⟩))
        go_wp2
        go_roundg (d.size + 1 - (i2 + 1))
        case measure => omega
        case rel => exact ⟨i2 + 1, by go_num, by omega, by omega, .inl (by omega), Nat.le_refl _, hide ((unhide hLi).grown rfl), hide ⟨(unhide hGi).os, (unhide hGi).tape, (unhide hGi).output, (unhide hGi).size, (unhide hGi).block⟩, hide (by rw [← unhide HE]; exact unhide hSi)⟩
      · have hstop : ¬ i2 ≤ j ∨ ltN dk[i2]! dk[a]! = !true := by
          by_cases e : i2 ≤ j
          · right
            cases h : ltN dk[i2]! dk[a]!
            all_goals first | rfl | exact absurd ⟨e, h⟩ hcont
          · exact .inl e
        have HSA := hide hstop
        have HI2 : Hid (scanUp (fun x => ltN x dk[a]!) dk j i = i2) := hide (by rw [← unhide hSi]; exact su_stop _ _ _ _ (by rcases hstop with h | h; exact .inl h; exact .inr (by simp [h])))
        clear hstop hSi
        have hle := Classical.em (i2 ≤ j)
        rcases hle with hle | hle
        all_goals
          first
          | (obtain ⟨c1, f1⟩ := (unhide hLi).cell a (by omega)
             obtain ⟨c2, f2⟩ := (unhide hLi).cell i2 (by omega)
             have HC := hide (less67 dk[i2]! dk[a]!)
             have hr : ltN dk[i2]! dk[a]! = !true := (by rcases unhide HSA with h | h; exact absurd hle h; exact h)
             rw [hr] at HC
             have y1 : (i2 : Int) ≤ j := (by omega)
             have y2 : (i2 : Int) < d.size := (by omega)
             clear hds hcont hr
             generalize dk[a]! = pv at c1 HC
             generalize dk[i2]! = xv at c2 HC
             go_wp2_with fail
             go_quiet ((go_at_call 63; refine (unhide HC _).mono ?_; rintro e w9 ⟨rfl, rfl⟩; exact ⟨rfl, _, rfl⟩))
             clear HC c1 c2 f1 f2 y1 y2)
          | (have y0 : ¬ (i2 : Int) ≤ j := (by omega)
             clear hds hcont
             go_wp2_with fail
             have y1 : decide ((i2 : Int) ≤ j) = false := decide_eq_false (by omega)
             go_quiet (fail)
             clear y0 y1)
          obtain ⟨w1, hw1⟩ : ∃ w1, w1 = wr.drewN nq := ⟨_, rfl⟩
          have HL1 : Hid (LiesU w1 blk dk) := hide (by rw [hw1]; exact (unhide hLi).grown rfl)
          have HG1 : Hid (w.grownBy w1 (some blk)) := hide (by rw [hw1]; exact gb_drew (unhide hGi) _)
          rw [← hw1]
          clear hw1 hLi hGi
          go_wp2_with fail
          go_loopg [11] (d.size + 1) (fun g s wr => ∃ j2 : Nat, s = .int .i64 j2 ∧ j2 ≤ j ∧ (i2 ≤ j2 + 1 ∨ j2 = j) ∧ a ≤ j2 ∧ j2 ≤ g ∧ Hid (LiesU wr blk dk) ∧ Hid (w.grownBy wr (some blk)) ∧ Hid (scanDown (fun x => !ltN x dk[a]!) dk i2 j2 = scanDown (fun x => !ltN x dk[a]!) dk i2 j))
          case atStart => exact ⟨j, rfl, Nat.le_refl _, .inr rfl, by omega, by have := unhide hsk; omega, HL1, HG1, hide rfl⟩
          case round =>
            obtain ⟨j2, rfl, hj1, hj2, hj3, hgj, hLj, hGj, hSj⟩ := hrel
            have hds := unhide hsk
            by_cases hcont2 : i2 ≤ j2 ∧ ltN dk[j2]! dk[a]! = false
            · obtain ⟨c1, f1⟩ := (unhide hLj).cell a (by omega)
              obtain ⟨c2, f2⟩ := (unhide hLj).cell j2 (by omega)
              have HE := hide (sdn_go (fun x => !ltN x dk[a]!) dk i2 j2 hcont2.1 (by omega) (by simp [hcont2.2]))
              have HC := hide (less67 dk[j2]! dk[a]!)
              have y1 : (i2 : Int) ≤ j2 := by omega
              have y2 : (j2 : Int) < d.size := by omega
              have y3 : IntKind.i64.wrap ((j2 : Int) - 1) = ((j2 - 1 : Nat) : Int) := by rw [IntKind.wrap_i64]; omega
              rw [hcont2.2] at HC
              have hle2 := hcont2.1
              clear hds hcont2
              generalize dk[a]! = pv at c1 HC
              generalize dk[j2]! = xv at c2 HC
              go_wp2_with fail
              go_quiet ((go_at_call 63; refine (unhide HC _).mono ?_; rintro e w9 ⟨rfl, rfl⟩; exact ⟨rfl, _, rfl⟩))
              go_wp2
              go_roundg (j2 - 1)
              case measure => omega
              case rel => exact ⟨j2 - 1, by go_num, by omega, .inl (by omega), by omega, Nat.le_refl _, hide ((unhide hLj).grown rfl), hide ⟨(unhide hGj).os, (unhide hGj).tape, (unhide hGj).output, (unhide hGj).size, (unhide hGj).block⟩, hide (by rw [← unhide HE]; exact unhide hSj)⟩
            · have hstop2 : ¬ i2 ≤ j2 ∨ ltN dk[j2]! dk[a]! = !false := by
                by_cases e : i2 ≤ j2
                · right
                  cases h : ltN dk[j2]! dk[a]!
                  all_goals first | rfl | exact absurd ⟨e, h⟩ hcont2
                · exact .inl e
              have HJ2 : Hid (scanDown (fun x => !ltN x dk[a]!) dk i2 j = j2) := hide (by rw [← unhide hSj]; exact sdn_stop _ _ _ _ (by rcases hstop2 with h | h; exact .inl h; exact .inr (by simp [h])))
              clear hSj
              by_cases hle2 : i2 ≤ j2
              · obtain ⟨c1, f1⟩ := (unhide hLj).cell a (by omega)
                obtain ⟨c2, f2⟩ := (unhide hLj).cell j2 (by omega)
                have hrB : ltN dk[j2]! dk[a]! = !false := by rcases hstop2 with h | h; exact absurd hle2 h; exact h
                have hij : i2 ≠ j2 := by
                  intro e
                  rcases unhide HSA with h | h
                  · omega
                  · rw [e] at h
                    rw [hrB] at h
                    simp at h
                have HC := hide (less67 dk[j2]! dk[a]!)
                rw [hrB] at HC
                have y1 : (i2 : Int) ≤ j2 := by omega
                have y2 : (j2 : Int) < d.size := by omega
                clear hcont2 hstop2 hrB
                have HDS := hide hds
                clear hds
                generalize dk[a]! = pv at c1 HC
                generalize hxv : dk[j2]! = xv at c2 HC
                clear hxv
                go_wp2_with fail
                go_quiet ((go_at_call 63; refine (unhide HC _).mono ?_; rintro e w9 ⟨rfl, rfl⟩; exact ⟨rfl, _, rfl⟩))
                clear HC c1 c2 f1 f2
                have HLw : Hid (LiesU (wr.drewN nq) blk dk) := hide ((unhide hLj).grown rfl)
                have HGw : Hid (w.grownBy (wr.drewN nq) (some blk)) := hide (gb_drew (unhide hGj) _)
                obtain ⟨wx, hwx⟩ : ∃ wx, wx = wr.drewN nq := ⟨_, rfl⟩
                rw [← hwx] at HLw HGw ⊢
                clear hwx hLj hGj
                have hds := unhide HDS
                obtain ⟨c1, f1⟩ := (unhide HLw).cell i2 (by omega)
                obtain ⟨c2, f2⟩ := (unhide HLw).cell j2 (by omega)
                have HSw := hide (fun n => ((unhide HLw).drew n).swap i2 j2 (by omega) (by omega))
                have HRS : Hid (res = ((partLoop ltN a (i2 + 1) (j2 - 1) (swp dk i2 j2)).1, false, swp (partLoop ltN a (i2 + 1) (j2 - 1) (swp dk i2 j2)).2 (partLoop ltN a (i2 + 1) (j2 - 1) (swp dk i2 j2)).1 a)) := hide (by
                  obtain ⟨e1, e2, e3⟩ := unhide HIJ
                  have h1 := unhide HI2
                  have h2 := unhide HJ2
                  rw [e1, e2, e3] at h1
                  rw [e2, e3] at h2
                  rw [unhide HD i2 j2 h1 h2, if_neg (by omega), e3])
                have HSZ := hide (show (swp dk i2 j2).size = d.size by rw [swp_size]; exact unhide hsk)
                have y3 : (i2 : Int) < d.size := by omega
                have y4 : IntKind.i64.wrap ((i2 : Int) + 1) = ((i2 + 1 : Nat) : Int) := by rw [IntKind.wrap_i64]; omega
                have y5 : IntKind.i64.wrap ((j2 : Int) - 1) = ((j2 - 1 : Nat) : Int) := by rw [IntKind.wrap_i64]; omega
                have n2 : ¬ j2 = i2 := fun e => hij e.symm
                clear hds
                generalize dk[i2]! = xv at *
                generalize dk[j2]! = yv at *
                first
                | (exfalso; omega)
                | (go_wp2_with fail
                   go_region
                   all_goals go_wp2_with fail
                   generalize hrl : partLoop ltN a (i2 + 1) (j2 - 1) (swp dk i2 j2) = rl at *
                   have HRL := hide hrl
                   clear hrl
                   go_loopg [10, 11] (d.size + 1) (fun g s10 s11 wr => ∃ (i j : Nat) (dk : Array Nat), s10 = .int .i64 i ∧ s11 = .int .i64 j ∧ a + 1 ≤ i ∧ i ≤ b ∧ j < b ∧ a ≤ j ∧ d.size + 1 - i ≤ g ∧ Hid (dk.size = d.size) ∧ Hid (LiesU wr blk dk) ∧ Hid (w.grownBy wr (some blk)) ∧ Hid (partLoop ltN a i j dk = rl))
                   case atStart => exact ⟨i2 + 1, j2 - 1, swp dk i2 j2, by go_num, by go_num, by omega, by omega, by omega, by omega, by omega, HSZ, hide (LiesU.grown (unhide HSw 0) rfl), hide (have g0 := gb_trans (unhide HGw) (gb_swap wx blk i2 j2 _ _); ⟨g0.os, g0.tape, g0.output, g0.size, g0.block⟩), HRL⟩
                   case round =>
                   clear HRL HSw HSZ c1 c2 f1 f2 HLw HGw y3 y4 y5 n2 HI2 HJ2 HSA hij HD HIJ HDS
                   clear hsk
                   clear hai hib hjb haj
                   obtain ⟨i, j, dk, rfl, rfl, hai, hib, hjb, haj, hg, hsk, hLk, hGk, hOk⟩ := hrel
                   obtain ⟨w0, hw0⟩ : ∃ w0, w0 = wr := ⟨wr, rfl⟩
                   subst hw0
                   go_wp2_with fail
                   go_loopg [10] (d.size + 1) (fun g s wr => ∃ i2 : Nat, s = .int .i64 i2 ∧ i ≤ i2 ∧ i2 ≤ d.size ∧ (i2 ≤ j + 1 ∨ i2 = i) ∧ d.size + 1 - i2 ≤ g ∧ Hid (LiesU wr blk dk) ∧ Hid (w.grownBy wr (some blk)) ∧ Hid (scanUp (fun x => ltN x dk[a]!) dk j i2 = scanUp (fun x => ltN x dk[a]!) dk j i))
                   case atStart => exact ⟨i, rfl, Nat.le_refl _, by omega, .inr rfl, by omega, hLk, hGk, hide rfl⟩
                   case round =>
                     obtain ⟨i2, rfl, hi1, hi2, hi3, hgi, hLi, hGi, hSi⟩ := hrel
                     have hds := unhide hsk
                     by_cases hcont : i2 ≤ j ∧ ltN dk[i2]! dk[a]! = true
                     · obtain ⟨c1, f1⟩ := (unhide hLi).cell a (by omega)
                       obtain ⟨c2, f2⟩ := (unhide hLi).cell i2 (by omega)
                       have HE := hide (su_go (fun x => ltN x dk[a]!) dk j i2 hcont.1 (by simp [hcont.2]))
                       have HC := hide (less67 dk[i2]! dk[a]!)
                       have y1 : (i2 : Int) ≤ j := by omega
                       have y2 : (i2 : Int) < d.size := by omega
                       have y3 : IntKind.i64.wrap ((i2 : Int) + 1) = ((i2 + 1 : Nat) : Int) := by rw [IntKind.wrap_i64]; omega
                       rw [hcont.2] at HC
                       have hle := hcont.1
                       clear hds hcont
                       generalize dk[a]! = pv at *
                       generalize dk[i2]! = xv at *
                       go_wp2_with fail
                       go_quiet ((go_at_call 63; refine (unhide HC _).mono ?_; rintro e w9 ⟨rfl, rfl⟩; exact ⟨rfl, _, rfl⟩))
                       go_wp2
                       go_roundg (d.size + 1 - (i2 + 1))
                       case measure => omega
                       case rel => exact ⟨i2 + 1, by go_num, by omega, by omega, .inl (by omega), Nat.le_refl _, hide ((unhide hLi).grown rfl), hide ⟨(unhide hGi).os, (unhide hGi).tape, (unhide hGi).output, (unhide hGi).size, (unhide hGi).block⟩, hide (by rw [← unhide HE]; exact unhide hSi)⟩
                     · have hstop : ¬ i2 ≤ j ∨ ltN dk[i2]! dk[a]! = !true := by
                         by_cases e : i2 ≤ j
                         · right
                           cases h : ltN dk[i2]! dk[a]!
                           all_goals first | rfl | exact absurd ⟨e, h⟩ hcont
                         · exact .inl e
                       have HSA := hide hstop
                       have HI2 : Hid (scanUp (fun x => ltN x dk[a]!) dk j i = i2) := hide (by rw [← unhide hSi]; exact su_stop _ _ _ _ (by rcases hstop with h | h; exact .inl h; exact .inr (by simp [h])))
                       clear hstop hSi
                       have hle := Classical.em (i2 ≤ j)
                       rcases hle with hle | hle
                       all_goals
                         first
                         | (obtain ⟨c1, f1⟩ := (unhide hLi).cell a (by omega)
                            obtain ⟨c2, f2⟩ := (unhide hLi).cell i2 (by omega)
                            have HC := hide (less67 dk[i2]! dk[a]!)
                            have hr : ltN dk[i2]! dk[a]! = !true := (by rcases unhide HSA with h | h; exact absurd hle h; exact h)
                            rw [hr] at HC
                            have y1 : (i2 : Int) ≤ j := (by omega)
                            have y2 : (i2 : Int) < d.size := (by omega)
                            clear hds hcont hr
                            generalize dk[a]! = pv at c1 HC
                            generalize dk[i2]! = xv at c2 HC
                            go_wp2_with fail
                            go_quiet ((go_at_call 63; refine (unhide HC _).mono ?_; rintro e w9 ⟨rfl, rfl⟩; exact ⟨rfl, _, rfl⟩))
                            clear HC c1 c2 f1 f2 y1 y2)
                         | (have y0 : ¬ (i2 : Int) ≤ j := (by omega)
                            clear hds hcont
                            go_wp2_with fail
                            have y1 : decide ((i2 : Int) ≤ j) = false := decide_eq_false (by omega)
                            go_quiet (fail)
                            clear y0 y1)
                         obtain ⟨w1, hw1⟩ : ∃ w1, w1 = wr.drewN nq := ⟨_, rfl⟩
                         have HL1 : Hid (LiesU w1 blk dk) := hide (by rw [hw1]; exact (unhide hLi).grown rfl)
                         have HG1 : Hid (w.grownBy w1 (some blk)) := hide (by rw [hw1]; exact gb_drew (unhide hGi) _)
                         rw [← hw1]
                         clear hw1 hLi hGi
                         go_wp2_with fail
                         go_loopg [11] (d.size + 1) (fun g s wr => ∃ j2 : Nat, s = .int .i64 j2 ∧ j2 ≤ j ∧ (i2 ≤ j2 + 1 ∨ j2 = j) ∧ a ≤ j2 ∧ j2 ≤ g ∧ Hid (LiesU wr blk dk) ∧ Hid (w.grownBy wr (some blk)) ∧ Hid (scanDown (fun x => !ltN x dk[a]!) dk i2 j2 = scanDown (fun x => !ltN x dk[a]!) dk i2 j))
                         case atStart => exact ⟨j, rfl, Nat.le_refl _, .inr rfl, by omega, by have := unhide hsk; omega, HL1, HG1, hide rfl⟩
                         case round =>
                           obtain ⟨j2, rfl, hj1, hj2, hj3, hgj, hLj, hGj, hSj⟩ := hrel
                           have hds := unhide hsk
                           by_cases hcont2 : i2 ≤ j2 ∧ ltN dk[j2]! dk[a]! = false
                           · obtain ⟨c1, f1⟩ := (unhide hLj).cell a (by omega)
                             obtain ⟨c2, f2⟩ := (unhide hLj).cell j2 (by omega)
                             have HE := hide (sdn_go (fun x => !ltN x dk[a]!) dk i2 j2 hcont2.1 (by omega) (by simp [hcont2.2]))
                             have HC := hide (less67 dk[j2]! dk[a]!)
                             have y1 : (i2 : Int) ≤ j2 := by omega
                             have y2 : (j2 : Int) < d.size := by omega
                             have y3 : IntKind.i64.wrap ((j2 : Int) - 1) = ((j2 - 1 : Nat) : Int) := by rw [IntKind.wrap_i64]; omega
                             rw [hcont2.2] at HC
                             have hle2 := hcont2.1
                             clear hds hcont2
                             generalize dk[a]! = pv at c1 HC
                             generalize dk[j2]! = xv at c2 HC
                             go_wp2_with fail
                             go_quiet ((go_at_call 63; refine (unhide HC _).mono ?_; rintro e w9 ⟨rfl, rfl⟩; exact ⟨rfl, _, rfl⟩))
                             go_wp2
                             go_roundg (j2 - 1)
                             case measure => omega
                             case rel => exact ⟨j2 - 1, by go_num, by omega, .inl (by omega), by omega, Nat.le_refl _, hide ((unhide hLj).grown rfl), hide ⟨(unhide hGj).os, (unhide hGj).tape, (unhide hGj).output, (unhide hGj).size, (unhide hGj).block⟩, hide (by rw [← unhide HE]; exact unhide hSj)⟩
                           · have hstop2 : ¬ i2 ≤ j2 ∨ ltN dk[j2]! dk[a]! = !false := by
                               by_cases e : i2 ≤ j2
                               · right
                                 cases h : ltN dk[j2]! dk[a]!
                                 all_goals first | rfl | exact absurd ⟨e, h⟩ hcont2
                               · exact .inl e
                             have HJ2 : Hid (scanDown (fun x => !ltN x dk[a]!) dk i2 j = j2) := hide (by rw [← unhide hSj]; exact sdn_stop _ _ _ _ (by rcases hstop2 with h | h; exact .inl h; exact .inr (by simp [h])))
                             clear hSj
                             by_cases hle2 : i2 ≤ j2
                             · obtain ⟨c1, f1⟩ := (unhide hLj).cell a (by omega)
                               obtain ⟨c2, f2⟩ := (unhide hLj).cell j2 (by omega)
                               have hrB : ltN dk[j2]! dk[a]! = !false := by rcases hstop2 with h | h; exact absurd hle2 h; exact h
                               have hij : i2 ≠ j2 := by
                                 intro e
                                 rcases unhide HSA with h | h
                                 · omega
                                 · rw [e] at h
                                   rw [hrB] at h
                                   simp at h
                               have HC := hide (less67 dk[j2]! dk[a]!)
                               rw [hrB] at HC
                               have y1 : (i2 : Int) ≤ j2 := by omega
                               have y2 : (j2 : Int) < d.size := by omega
                               clear hcont2 hstop2 hrB
                               have HDS := hide hds
                               clear hds
                               generalize dk[a]! = pv at c1 HC
                               generalize hxv : dk[j2]! = xv at c2 HC
                               clear hxv
                               go_wp2_with fail
                               go_quiet ((go_at_call 63; refine (unhide HC _).mono ?_; rintro e w9 ⟨rfl, rfl⟩; exact ⟨rfl, _, rfl⟩))
                               clear HC c1 c2 f1 f2
                               have HLw : Hid (LiesU (wr.drewN nq) blk dk) := hide ((unhide hLj).grown rfl)
                               have HGw : Hid (w.grownBy (wr.drewN nq) (some blk)) := hide (gb_drew (unhide hGj) _)
                               obtain ⟨wx, hwx⟩ : ∃ wx, wx = wr.drewN nq := ⟨_, rfl⟩
                               rw [← hwx] at HLw HGw ⊢
                               clear hwx hLj hGj
                               have hds := unhide HDS
                               obtain ⟨c1, f1⟩ := (unhide HLw).cell i2 (by omega)
                               obtain ⟨c2, f2⟩ := (unhide HLw).cell j2 (by omega)
                               have HSw := hide (fun n => ((unhide HLw).drew n).swap i2 j2 (by omega) (by omega))
                               have HE := hide (pl_eq a i j dk i2 j2 (unhide HI2) (unhide HJ2))
                               rw [if_neg (by omega)] at HE
                               have y3 : (i2 : Int) < d.size := by omega
                               have y4 : IntKind.i64.wrap ((i2 : Int) + 1) = ((i2 + 1 : Nat) : Int) := by rw [IntKind.wrap_i64]; omega
                               have y5 : IntKind.i64.wrap ((j2 : Int) - 1) = ((j2 - 1 : Nat) : Int) := by rw [IntKind.wrap_i64]; omega
                               have n2 : ¬ j2 = i2 := fun e => hij e.symm
                               clear hds
                               generalize dk[i2]! = xv at *
                               generalize dk[j2]! = yv at *
                               first
                               | (exfalso; omega)
                               | (go_wp2_with fail
                                  go_region
                                  all_goals go_wp2
                                  go_roundg (d.size + 1 - (i2 + 1))
                                  case measure => omega
                                  case rel => exact ⟨i2 + 1, j2 - 1, swp dk i2 j2, by go_num, by go_num, by omega, by omega, by omega, by omega, Nat.le_refl _, hide (by rw [swp_size]; exact unhide hsk), hide (LiesU.grown (unhide HSw 0) rfl), hide (have g0 := gb_trans (unhide HGw) (gb_swap wx blk i2 j2 _ _); ⟨g0.os, g0.tape, g0.output, g0.size, g0.block⟩), hide (by rw [← unhide HE]; exact unhide hOk)⟩)
                             · have y0 : ¬ (i2 : Int) ≤ j2 := by omega
                               clear hcont2 hstop2
                               go_wp2_with fail
                               have y1 : decide ((i2 : Int) ≤ j2) = false := decide_eq_false (by omega)
                               go_quiet (fail)
                               have HLw : Hid (LiesU (wr.drewN nq) blk dk) := hide ((unhide hLj).grown rfl)
                               have HGw : Hid (w.grownBy (wr.drewN nq) (some blk)) := hide (gb_drew (unhide hGj) _)
                               obtain ⟨wx, hwx⟩ : ∃ wx, wx = wr.drewN nq := ⟨_, rfl⟩
                               rw [← hwx] at HLw HGw ⊢
                               clear hwx hLj hGj y1
                               have y2 : (j2 : Int) < i2 := by omega
                               obtain ⟨c1, f1⟩ := (unhide HLw).cell a (by have := unhide hsk; omega)
                               obtain ⟨c2, f2⟩ := (unhide HLw).cell j2 (by have := unhide hsk; omega)
                               have HSw := hide (fun n => ((unhide HLw).drew n).swap j2 a (by have := unhide hsk; omega) (by have := unhide hsk; omega))
                               have y6 : (j2 : Int) < d.size := by omega
                               have HRES : Hid (res = (j2, false, swp dk j2 a)) := hide (by rw [unhide HRS, ← unhide hOk, pl_eq a i j dk i2 j2 (unhide HI2) (unhide HJ2), if_pos (by omega)])
                               have hcf := Classical.em (j2 = a)
                               rcases hcf with hcf | hcf
                               all_goals
                                 first
                                 | (subst hcf
                                    generalize dk[j2]! = xv at *
                                    go_wp2_with fail
                                    go_region
                                    all_goals go_wp2
                                    go_ret2
                                    rw [unhide HRES]
                                    exact ⟨rfl, LiesU.grown (unhide HSw 0) rfl, (have g0 := gb_trans (unhide HGw) (gb_swap wx blk j2 j2 (.int .u32 (xv : Nat)) (.int .u32 (xv : Nat))); ⟨g0.os, g0.tape, g0.output, g0.size, g0.block⟩)⟩)
                                 | (have n3 : ¬ a = j2 := (fun e => hcf e.symm)
                                    generalize dk[j2]! = xv at *
                                    generalize dk[a]! = pv at *
                                    go_wp2_with fail
                                    go_region
                                    all_goals go_wp2
                                    go_ret2
                                    rw [unhide HRES]
                                    exact ⟨rfl, LiesU.grown (unhide HSw 0) rfl, (have g0 := gb_trans (unhide HGw) (gb_swap wx blk j2 a (.int .u32 (pv : Nat)) (.int .u32 (xv : Nat))); ⟨g0.os, g0.tape, g0.output, g0.size, g0.block⟩)⟩))
              · have y0 : ¬ (i2 : Int) ≤ j2 := by omega
                clear hcont2 hstop2
                go_wp2_with fail
                have y1 : decide ((i2 : Int) ≤ j2) = false := decide_eq_false (by omega)
                go_quiet (fail)
                have HLw : Hid (LiesU (wr.drewN nq) blk dk) := hide ((unhide hLj).grown rfl)
                have HGw : Hid (w.grownBy (wr.drewN nq) (some blk)) := hide (gb_drew (unhide hGj) _)
                obtain ⟨wx, hwx⟩ : ∃ wx, wx = wr.drewN nq := ⟨_, rfl⟩
                rw [← hwx] at HLw HGw ⊢
                clear hwx hLj hGj y1
                have y2 : (j2 : Int) < i2 := by omega
                obtain ⟨c1, f1⟩ := (unhide HLw).cell a (by have := unhide hsk; omega)
                obtain ⟨c2, f2⟩ := (unhide HLw).cell j2 (by have := unhide hsk; omega)
                have HSw := hide (fun n => ((unhide HLw).drew n).swap j2 a (by have := unhide hsk; omega) (by have := unhide hsk; omega))
                have y6 : (j2 : Int) < d.size := by omega
                have HRES : Hid (res = (j2, true, swp dk j2 a)) := hide (by
                  obtain ⟨e1, e2, e3⟩ := unhide HIJ
                  have h1 := unhide HI2
                  have h2 := unhide HJ2
                  rw [e1, e2, e3] at h1
                  rw [e2, e3] at h2
                  rw [unhide HD i2 j2 h1 h2, if_pos (by omega), e3])
                have hcf := Classical.em (j2 = a)
                rcases hcf with hcf | hcf
                all_goals
                  first
                  | (subst hcf
                     generalize dk[j2]! = xv at *
                     go_wp2_with fail
                     go_region
                     all_goals go_wp2
                     go_ret2
                     rw [unhide HRES]
                     exact ⟨rfl, LiesU.grown (unhide HSw 0) rfl, (have g0 := gb_trans (unhide HGw) (gb_swap wx blk j2 j2 (.int .u32 (xv : Nat)) (.int .u32 (xv : Nat))); ⟨g0.os, g0.tape, g0.output, g0.size, g0.block⟩)⟩)
                  | (have n3 : ¬ a = j2 := (fun e => hcf e.symm)
                     generalize dk[j2]! = xv at *
                     generalize dk[a]! = pv at *
                     go_wp2_with fail
                     go_region
                     all_goals go_wp2
                     go_ret2
                     rw [unhide HRES]
                     exact ⟨rfl, LiesU.grown (unhide HSw 0) rfl, (have g0 := gb_trans (unhide HGw) (gb_swap wx blk j2 a (.int .u32 (pv : Nat)) (.int .u32 (xv : Nat))); ⟨g0.os, g0.tape, g0.output, g0.size, g0.block⟩)⟩)
end Go.Proofs.YtmemceindohklaaDoor

/-! Kh -/
namespace Go.Proofs.YtmemceindohklaaDoor
open Go Go.Proofs Go.RowKit Go.Sort
set_option linter.unusedSimpArgs false
set_option linter.unusedVariables false
theorem ss_go (d : Array Nat) (b i : Nat) (h : i < b) (hr : ltN d[i]! d[i - 1]! = false) : scanSorted ltN d b i = scanSorted ltN d b (i + 1) := by rw [scanSorted, if_pos (by simp [h, hr])]
theorem ss_stop (d : Array Nat) (b i : Nat) (h : ¬ i < b ∨ ltN d[i]! d[i - 1]! = true) : scanSorted ltN d b i = i := by
  rw [scanSorted, if_neg]
  rcases h with h | h
  · simp [h]
  · simp [h]
theorem dn_go (d : Array Nat) (j : Nat) (hj : 1 ≤ j) (hr : ltN d[j]! d[j - 1]! = true) : shiftDown ltN j d = shiftDown ltN (j - 1) (swp d j (j - 1)) := by
  cases j with
  | zero => omega
  | succ j =>
    simp only [Nat.add_sub_cancel] at hr ⊢
    rw [shiftDown, if_neg (by simp [hr])]
theorem dn_stop (d : Array Nat) (j : Nat) (hr : j = 0 ∨ ltN d[j]! d[j - 1]! = false) : shiftDown ltN j d = d := by
  cases j with
  | zero => rfl
  | succ j =>
    simp only [Nat.add_sub_cancel] at hr
    rw [shiftDown, if_pos (by rcases hr with h | h; omega; simp [h])]
theorem up_go (d : Array Nat) (b j : Nat) (hj : j < b) (hr : ltN d[j]! d[j - 1]! = true) : shiftUp ltN b j d = shiftUp ltN b (j + 1) (swp d j (j - 1)) := by
  rw [shiftUp, if_pos hj, if_neg (by simp [hr])]
theorem up_stop (d : Array Nat) (b j : Nat) (hr : ¬ j < b ∨ ltN d[j]! d[j - 1]! = false) : shiftUp ltN b j d = d := by
  rw [shiftUp]
  rcases hr with h | h
  · rw [if_neg h]
  · split
    · rw [if_pos (by simp [h])]
    · rfl
theorem pi_step (a b s i i2 : Nat) (d : Array Nat) (h : scanSorted ltN d b i = i2) : partialIns ltN a b (s + 1) i d = if i2 = b then (d, true) else if b - a < 50 then (d, false) else
    partialIns ltN a b s i2 (if b - i2 ≥ 2 then shiftUp ltN b (i2 + 1) (if i2 - a ≥ 2 then shiftDown ltN (i2 - 1) (swp d i2 (i2 - 1)) else swp d i2 (i2 - 1)) else (if i2 - a ≥ 2 then shiftDown ltN (i2 - 1) (swp d i2 (i2 - 1)) else swp d i2 (i2 - 1))) := by
  rw [partialIns]
  simp only [h]
set_option maxHeartbeats 8000000 in
set_option maxRecDepth 100000 in
theorem partins66 (blk cap a b : Nat) (d : Array Nat) (w : World) (hL : LiesU w blk d) (hab : a < b) (hb : b ≤ d.size) (hsz : d.size ≤ 3000) :
    Calls Tryd.prog 62 #[.slice (some ⟨blk, 0, none⟩) d.size cap, .int .i64 a, .int .i64 b] w fun e w' => e = .returned (.bool (partialInsertionSort ltN d a b).2) ∧ LiesU w' blk (partialInsertionSort ltN d a b).1 ∧ w.grownBy w' (some blk) := by
  have HL := hide hL
  clear hL
  have HD : Hid (partialIns ltN a b 5 (a + 1) d = partialInsertionSort ltN d a b) := hide rfl
  generalize partialInsertionSort ltN d a b = res at *
  have z0 : IntKind.i64.wrap ((b : Int) - a) = ((b - a : Nat) : Int) := by rw [IntKind.wrap_i64]; omega
  go_enter Tryd.func62, Tryd.ntmps62
  go_wp2_with fail
  go_loopg [7, 8] 5 (fun g s7 s8 wr => ∃ (i jj : Nat) (dk : Array Nat), s7 = .int .i64 i ∧ s8 = .int .i64 jj ∧ jj ≤ 5 ∧ 5 - jj ≤ g ∧ a + 1 ≤ i ∧ i ≤ b ∧ Hid (dk.size = d.size) ∧ Hid (LiesU wr blk dk) ∧ Hid (w.grownBy wr (some blk)) ∧ Hid (partialIns ltN a b (5 - jj) i dk = res))
  case atStart => exact ⟨a + 1, 0, d, by go_num, rfl, by omega, by omega, by omega, by omega, hide rfl, HL, hide (gb_refl _ _), HD⟩
  case round =>
    obtain ⟨i, jj, dk, rfl, rfl, hj5, hg, hai, hib, hsk, hLk, hGk, hOk⟩ := hrel
    by_cases hjl : jj < 5
    · have hjz : (jj : Int) < 5 := by omega
      have HST := hide (fun i2 (h : scanSorted ltN dk b i = i2) => pi_step a b (5 - (jj + 1)) i i2 dk h)
      have e5 : 5 - jj = (5 - (jj + 1)) + 1 := by omega
      rw [e5] at hOk
      clear e5
      go_wp2_with fail
      go_loopg [7] (b + 1) (fun g s7 wr => ∃ i2 : Nat, s7 = .int .i64 i2 ∧ i ≤ i2 ∧ i2 ≤ b ∧ b + 1 - i2 ≤ g ∧ Hid (LiesU wr blk dk) ∧ Hid (w.grownBy wr (some blk)) ∧ Hid (scanSorted ltN dk b i2 = scanSorted ltN dk b i))
      case atStart => exact ⟨i, rfl, Nat.le_refl _, hib, by omega, hLk, hGk, hide rfl⟩
      case round =>
        obtain ⟨i2, rfl, hi1, hi2, hgi, hLi, hGi, hSi⟩ := hrel
        have hds := unhide hsk
        by_cases hlt : i2 < b
        · obtain ⟨c1, f1⟩ := (unhide hLi).cell i2 (by omega)
          obtain ⟨c2, f2⟩ := (unhide hLi).cell (i2 - 1) (by omega)
          have HGo := hide (ss_go dk b i2 hlt)
          have HSt := hide (fun h => ss_stop dk b i2 (.inr h))
          have HSw := hide (fun n => ((unhide hLi).drew n).swap i2 (i2 - 1) (by omega) (by omega))
          have z1 : (i2 : Int) < b := by omega
          have z2 : (i2 : Int) < d.size := by omega
          have z3 : (i2 : Int) - 1 < d.size := by omega
          have z4 : (0 : Int) ≤ (i2 : Int) - 1 := by omega
          have z5 : ((i2 : Int) - 1).toNat = i2 - 1 := by omega
          have z6 : IntKind.i64.wrap ((i2 : Int) - 1) = (i2 : Int) - 1 := by rw [IntKind.wrap_i64]; omega
          have z7 : IntKind.i64.wrap ((i2 : Int) + 1) = ((i2 + 1 : Nat) : Int) := by rw [IntKind.wrap_i64]; omega
          have n1 : ¬ i2 - 1 = i2 := by omega
          have n2 : ¬ i2 = i2 - 1 := by omega
          have HDS := hide hds
          clear hds
          generalize dk[i2]! = x at *
          generalize dk[i2 - 1]! = y at *
          have HC := hide (less67 x y)
          generalize ltN x y = r at *
          cases r
          · have HE := hide (unhide HGo rfl)
            clear HSt HGo HSw
            go_wp2_with fail
            go_quiet ((go_at_call 63; refine (unhide HC _).mono ?_; rintro e w9 ⟨rfl, rfl⟩; exact ⟨rfl, _, rfl⟩))
            go_wp2
            go_roundg (b + 1 - (i2 + 1))
            case measure => omega
            case rel => exact ⟨i2 + 1, by go_num, by omega, by omega, Nat.le_refl _, hide ((unhide hLi).grown rfl), hide ⟨(unhide hGi).os, (unhide hGi).tape, (unhide hGi).output, (unhide hGi).size, (unhide hGi).block⟩, hide (by rw [← unhide HE]; exact unhide hSi)⟩
          · have HRS := hide (unhide HST i2 (by rw [← unhide hSi]; exact unhide HSt rfl))
            rw [if_neg (by omega)] at HRS
            clear HSt HGo HST
            go_wp2_with fail
            go_quiet ((go_at_call 63; refine (unhide HC _).mono ?_; rintro e w9 ⟨rfl, rfl⟩; exact ⟨rfl, _, rfl⟩))
            have zne : decide ((i2 : Int) = b) = false := decide_eq_false (by omega)
            have zne' : ((i2 : Int) == b) = false := by simp; omega
            have zne2 : ¬ i2 = b := by omega
            by_cases h50 : b - a < 50
            · rw [if_pos h50] at HRS
              have y1 : ((b - a : Nat) : Int) < 50 := by omega
              go_wp2
              go_ret
              rw [← unhide hOk, unhide HRS]
              exact ⟨rfl, (unhide hLi).grown rfl, ⟨(unhide hGi).os, (unhide hGi).tape, (unhide hGi).output, (unhide hGi).size, (unhide hGi).block⟩⟩
            · rw [if_neg h50] at HRS
              have y1 : ¬ ((b - a : Nat) : Int) < 50 := by omega
              have HGw : Hid (w.grownBy (wr.drewN nq) (some blk)) := hide (gb_drew (unhide hGi) _)
              obtain ⟨wx, hwx⟩ : ∃ wx, wx = wr.drewN nq := ⟨_, rfl⟩
              have HSx : Hid (LiesU ((wx.setCell ⟨blk, i2, none⟩ (.int .u32 (y : Nat))).setCell ⟨blk, i2 - 1, none⟩ (.int .u32 (x : Nat))).drew blk (swp dk i2 (i2 - 1))) := hide (by rw [hwx]; exact LiesU.grown (unhide HSw nq) rfl)
              have k1 : wx.cell? ⟨blk, i2, none⟩ = some (.int .u32 (x : Nat)) := by rw [hwx]; exact c1
              have k2 : wx.cell? ⟨blk, i2 - 1, none⟩ = some (.int .u32 (y : Nat)) := by rw [hwx]; exact c2
              have k3 : wx.frozen? ⟨blk, i2, none⟩ = false := by rw [hwx]; exact f1
              have k4 : wx.frozen? ⟨blk, i2 - 1, none⟩ = false := by rw [hwx]; exact f2
              rw [← hwx] at HGw ⊢
              clear hwx hLi hGi c1 c2 f1 f2 HC HSw
              have HZ2 := hide (show (swp dk i2 (i2 - 1)).size = d.size by rw [swp_size]; exact unhide HDS)
              generalize swp dk i2 (i2 - 1) = dk2 at *
              obtain ⟨q1, hq1⟩ : ∃ q, q = i2 - a := ⟨_, rfl⟩
              obtain ⟨q2, hq2⟩ : ∃ q, q = b - i2 := ⟨_, rfl⟩
              have y2 : IntKind.i64.wrap ((i2 : Int) - a) = (q1 : Int) := by rw [IntKind.wrap_i64]; omega
              have y3 : IntKind.i64.wrap ((b : Int) - i2) = (q2 : Int) := by rw [IntKind.wrap_i64]; omega
              obtain ⟨p1, hp1⟩ : ∃ p, p = i2 - 1 := ⟨_, rfl⟩
              have hp1z : (i2 : Int) - 1 = (p1 : Int) := by omega
              rw [← hq1, ← hq2, ← hp1] at HRS
              rw [← hp1] at HSx k2 k4 n1 n2
              have z6' : IntKind.i64.wrap ((i2 : Int) - 1) = (p1 : Int) := by rw [IntKind.wrap_i64]; omega
              have z3' : (p1 : Int) < d.size := by omega
              have HQ := hide (And.intro hq1 (And.intro hq2 hp1))
              clear hq1 hq2 hp1 hp1z z5 HDS z3 z4 z6
              have HGx : Hid (w.grownBy (((wx.setCell ⟨blk, i2, none⟩ (.int .u32 (y : Nat))).setCell ⟨blk, p1, none⟩ (.int .u32 (x : Nat))).drew) (some blk)) := hide (have g0 := gb_trans (unhide HGw) (gb_swap wx blk i2 p1 (.int .u32 (y : Nat)) (.int .u32 (x : Nat))); ⟨g0.os, g0.tape, g0.output, g0.size, g0.block⟩)
              by_cases h2 : q1 ≥ 2
              · rw [if_pos h2] at HRS
                have x1 : (2 : Int) ≤ q1 := by omega
                go_wp2_with fail
                go_region
                all_goals go_wp2_with fail
                go_loopg [9] p1 (fun g s9 wr => ∃ (j : Nat) (dj : Array Nat), s9 = .int .i64 j ∧ j ≤ p1 ∧ j ≤ g ∧ Hid (dj.size = d.size) ∧ Hid (LiesU wr blk dj) ∧ Hid (w.grownBy wr (some blk)) ∧ Hid (shiftDown ltN j dj = shiftDown ltN p1 dk2))
                case atStart => exact ⟨p1, dk2, rfl, Nat.le_refl _, Nat.le_refl _, HZ2, HSx, HGx, hide rfl⟩
                case round =>
                  obtain ⟨j, dj, rfl, hjp, hgj, hsj, hLj, hGj, hSj⟩ := hrel
                  clear k1 k2 k3 k4 HSx HGx HZ2
                  by_cases hj0 : j = 0
                  · have HD3 := hide (show shiftDown ltN p1 dk2 = dj by rw [← unhide hSj, dn_stop dj j (.inl hj0)])
                    rw [unhide HD3] at HRS
                    have x2 : ¬ (1 : Int) ≤ j := by omega
                    by_cases h3 : q2 ≥ 2
                    · rw [if_pos h3] at HRS
                      have w1 : (2 : Int) ≤ q2 := by omega
                      obtain ⟨e1, he1⟩ : ∃ e, e = i2 + 1 := ⟨_, rfl⟩
                      have w2 : IntKind.i64.wrap ((i2 : Int) + 1) = (e1 : Int) := by rw [IntKind.wrap_i64]; omega
                      rw [← he1] at HRS
                      have HE1 := hide he1
                      clear he1 z7
                      go_wp2_with fail
                      go_loopg [10] (b + 1) (fun g s10 wr => ∃ (j' : Nat) (dn : Array Nat), s10 = .int .i64 j' ∧ e1 ≤ j' ∧ j' ≤ b ∧ b + 1 - j' ≤ g ∧ Hid (dn.size = d.size) ∧ Hid (LiesU wr blk dn) ∧ Hid (w.grownBy wr (some blk)) ∧ Hid (shiftUp ltN b j' dn = shiftUp ltN b e1 dj))
                      case atStart => exact ⟨e1, dj, rfl, Nat.le_refl _, by have := unhide HE1; omega, by have := unhide HE1; omega, hsj, hLj, hGj, hide rfl⟩
                      case round =>
                        obtain ⟨j', dn, rfl, hje, hjb, hgn, hsn, hLn, hGn, hSn⟩ := hrel
                        by_cases hjl2 : j' < b
                        · obtain ⟨u', hu2⟩ : ∃ u, u = j' - 1 := ⟨_, rfl⟩
                          have hds := unhide hsn
                          have hee := unhide HE1
                          obtain ⟨c1, f1⟩ := (unhide hLn).cell j' (by omega)
                          obtain ⟨c2, f2⟩ := (unhide hLn).cell u' (by omega)
                          have HGo := hide (up_go dn b j' hjl2)
                          have HSt := hide (fun h => up_stop dn b j' (.inr h))
                          have HSw := hide (fun n => ((unhide hLn).drew n).swap j' u' (by omega) (by omega))
                          rw [← hu2] at HGo HSt
                          have v1 : (j' : Int) < b := by omega
                          have v2 : IntKind.i64.wrap ((j' : Int) - 1) = (u' : Int) := by rw [IntKind.wrap_i64]; omega
                          have v3 : (j' : Int) < d.size := by omega
                          have v4 : (u' : Int) < d.size := by omega
                          have v5 : IntKind.i64.wrap ((j' : Int) + 1) = ((j' + 1 : Nat) : Int) := by rw [IntKind.wrap_i64]; omega
                          have m3 : ¬ j' = u' := by omega
                          have m4 : ¬ u' = j' := by omega
                          clear hds hee hu2
                          generalize dn[j']! = x2' at *
                          generalize dn[u']! = y2' at *
                          have HC := hide (less67 x2' y2')
                          generalize ltN x2' y2' = r at *
                          cases r
                          · have HD4 := hide (show shiftUp ltN b e1 dj = dn by rw [← unhide hSn, unhide HSt rfl])
                            rw [unhide HD4] at HRS
                            clear HSt HGo HSw
                            go_wp2_with fail
                            go_quiet ((go_at_call 63; refine (unhide HC _).mono ?_; rintro e w9 ⟨rfl, rfl⟩; exact ⟨rfl, _, rfl⟩))
                            go_wp2
                            go_roundg (5 - (jj + 1))
                            case measure => omega
                            case rel => exact ⟨i2, jj + 1, dn, by go_num, by go_num, by omega, Nat.le_refl _, by omega, by omega, hsn, hide ((unhide hLn).grown rfl), hide ⟨(unhide hGn).os, (unhide hGn).tape, (unhide hGn).output, (unhide hGn).size, (unhide hGn).block⟩, hide (by rw [← unhide hOk, unhide HRS])⟩
                          · have HE := hide (unhide HGo rfl)
                            clear HSt HGo
                            go_wp2_with fail
                            go_quiet ((go_at_call 63; refine (unhide HC _).mono ?_; rintro e w9 ⟨rfl, rfl⟩; exact ⟨rfl, _, rfl⟩))
                            go_wp2_with fail
                            go_region
                            all_goals go_wp2
                            go_roundg (b + 1 - (j' + 1))
                            case measure => omega
                            case rel => exact ⟨j' + 1, swp dn j' u', by go_num, by omega, by omega, Nat.le_refl _, hide (by rw [swp_size]; exact unhide hsn), hide (unhide HSw _), hide (gb_trans (gb_drew (unhide hGn) _) (gb_swap _ _ _ _ _ _)), hide (by rw [← unhide HE]; exact unhide hSn)⟩
                        · have HD4 := hide (show shiftUp ltN b e1 dj = dn by rw [← unhide hSn, up_stop dn b j' (.inl hjl2)])
                          rw [unhide HD4] at HRS
                          have v1 : ¬ (j' : Int) < b := by omega
                          go_wp2
                          go_roundg (5 - (jj + 1))
                          case measure => omega
                          case rel => exact ⟨i2, jj + 1, dn, by go_num, by go_num, by omega, Nat.le_refl _, by omega, by omega, hsn, hLn, hGn, hide (by rw [← unhide hOk, unhide HRS])⟩
                    · rw [if_neg h3] at HRS
                      have w1 : ¬ (2 : Int) ≤ q2 := by omega
                      go_wp2
                      go_roundg (5 - (jj + 1))
                      case measure => omega
                      case rel => exact ⟨i2, jj + 1, dj, by go_num, by go_num, by omega, Nat.le_refl _, by omega, by omega, hsj, hLj, hGj, hide (by rw [← unhide hOk, unhide HRS])⟩
                  · obtain ⟨u, hu⟩ : ∃ u, u = j - 1 := ⟨_, rfl⟩
                    have hds := unhide hsj
                    have hpq := unhide HQ
                    obtain ⟨c1, f1⟩ := (unhide hLj).cell j (by omega)
                    obtain ⟨c2, f2⟩ := (unhide hLj).cell u (by omega)
                    have HGo := hide (dn_go dj j (by omega))
                    have HSt := hide (fun h => dn_stop dj j (.inr h))
                    have HSw := hide (fun n => ((unhide hLj).drew n).swap j u (by omega) (by omega))
                    rw [← hu] at HGo HSt
                    have x2 : (1 : Int) ≤ j := by omega
                    have x3 : IntKind.i64.wrap ((j : Int) - 1) = (u : Int) := by rw [IntKind.wrap_i64]; omega
                    have x4 : (j : Int) < d.size := by omega
                    have x5 : (u : Int) < d.size := by omega
                    have m1 : ¬ j = u := by omega
                    have m2 : ¬ u = j := by omega
                    have hu' := hide hu
                    clear hds hpq hu
                    generalize dj[j]! = x' at *
                    generalize dj[u]! = y' at *
                    have HC := hide (less67 x' y')
                    generalize ltN x' y' = r at *
                    cases r
                    · have HD3 := hide (show shiftDown ltN p1 dk2 = dj by rw [← unhide hSj, unhide HSt rfl])
                      rw [unhide HD3] at HRS
                      clear HSt HGo HSw
                      by_cases h3 : q2 ≥ 2
                      · rw [if_pos h3] at HRS
                        have w1 : (2 : Int) ≤ q2 := by omega
                        obtain ⟨e1, he1⟩ : ∃ e, e = i2 + 1 := ⟨_, rfl⟩
                        have w2 : IntKind.i64.wrap ((i2 : Int) + 1) = (e1 : Int) := by rw [IntKind.wrap_i64]; omega
                        rw [← he1] at HRS
                        have HE1 := hide he1
                        clear he1 z7
                        go_wp2_with fail
                        go_quiet ((go_at_call 63; refine (unhide HC _).mono ?_; rintro e w9 ⟨rfl, rfl⟩; exact ⟨rfl, _, rfl⟩))
                        go_wp2_with fail
                        go_loopg [10] (b + 1) (fun g s10 wr => ∃ (j' : Nat) (dn : Array Nat), s10 = .int .i64 j' ∧ e1 ≤ j' ∧ j' ≤ b ∧ b + 1 - j' ≤ g ∧ Hid (dn.size = d.size) ∧ Hid (LiesU wr blk dn) ∧ Hid (w.grownBy wr (some blk)) ∧ Hid (shiftUp ltN b j' dn = shiftUp ltN b e1 dj))
                        case atStart => exact ⟨e1, dj, rfl, Nat.le_refl _, by have := unhide HE1; omega, by have := unhide HE1; omega, hsj, (hide ((unhide hLj).grown rfl)), (hide ⟨(unhide hGj).os, (unhide hGj).tape, (unhide hGj).output, (unhide hGj).size, (unhide hGj).block⟩), hide rfl⟩
                        case round =>
                          obtain ⟨j', dn, rfl, hje, hjb, hgn, hsn, hLn, hGn, hSn⟩ := hrel
                          by_cases hjl2 : j' < b
                          · obtain ⟨u', hu2⟩ : ∃ u, u = j' - 1 := ⟨_, rfl⟩
                            have hds := unhide hsn
                            have hee := unhide HE1
                            obtain ⟨c1, f1⟩ := (unhide hLn).cell j' (by omega)
                            obtain ⟨c2, f2⟩ := (unhide hLn).cell u' (by omega)
                            have HGo := hide (up_go dn b j' hjl2)
                            have HSt := hide (fun h => up_stop dn b j' (.inr h))
                            have HSw := hide (fun n => ((unhide hLn).drew n).swap j' u' (by omega) (by omega))
                            rw [← hu2] at HGo HSt
                            have v1 : (j' : Int) < b := by omega
                            have v2 : IntKind.i64.wrap ((j' : Int) - 1) = (u' : Int) := by rw [IntKind.wrap_i64]; omega
                            have v3 : (j' : Int) < d.size := by omega
                            have v4 : (u' : Int) < d.size := by omega
                            have v5 : IntKind.i64.wrap ((j' : Int) + 1) = ((j' + 1 : Nat) : Int) := by rw [IntKind.wrap_i64]; omega
                            have m3 : ¬ j' = u' := by omega
                            have m4 : ¬ u' = j' := by omega
                            clear hds hee hu2
                            generalize dn[j']! = x2' at *
                            generalize dn[u']! = y2' at *
                            have HC := hide (less67 x2' y2')
                            generalize ltN x2' y2' = r at *
                            cases r
                            · have HD4 := hide (show shiftUp ltN b e1 dj = dn by rw [← unhide hSn, unhide HSt rfl])
                              rw [unhide HD4] at HRS
                              clear HSt HGo HSw
                              go_wp2_with fail
                              go_quiet ((go_at_call 63; refine (unhide HC _).mono ?_; rintro e w9 ⟨rfl, rfl⟩; exact ⟨rfl, _, rfl⟩))
                              go_wp2
                              go_roundg (5 - (jj + 1))
                              case measure => omega
                              case rel => exact ⟨i2, jj + 1, dn, by go_num, by go_num, by omega, Nat.le_refl _, by omega, by omega, hsn, hide ((unhide hLn).grown rfl), hide ⟨(unhide hGn).os, (unhide hGn).tape, (unhide hGn).output, (unhide hGn).size, (unhide hGn).block⟩, hide (by rw [← unhide hOk, unhide HRS])⟩
                            · have HE := hide (unhide HGo rfl)
                              clear HSt HGo
                              go_wp2_with fail
                              go_quiet ((go_at_call 63; refine (unhide HC _).mono ?_; rintro e w9 ⟨rfl, rfl⟩; exact ⟨rfl, _, rfl⟩))
                              go_wp2_with fail
                              go_region
                              all_goals go_wp2
                              go_roundg (b + 1 - (j' + 1))
                              case measure => omega
                              case rel => exact ⟨j' + 1, swp dn j' u', by go_num, by omega, by omega, Nat.le_refl _, hide (by rw [swp_size]; exact unhide hsn), hide (unhide HSw _), hide (gb_trans (gb_drew (unhide hGn) _) (gb_swap _ _ _ _ _ _)), hide (by rw [← unhide HE]; exact unhide hSn)⟩
                          · have HD4 := hide (show shiftUp ltN b e1 dj = dn by rw [← unhide hSn, up_stop dn b j' (.inl hjl2)])
                            rw [unhide HD4] at HRS
                            have v1 : ¬ (j' : Int) < b := by omega
                            go_wp2
                            go_roundg (5 - (jj + 1))
                            case measure => omega
                            case rel => exact ⟨i2, jj + 1, dn, by go_num, by go_num, by omega, Nat.le_refl _, by omega, by omega, hsn, hLn, hGn, hide (by rw [← unhide hOk, unhide HRS])⟩
                      · rw [if_neg h3] at HRS
                        have w1 : ¬ (2 : Int) ≤ q2 := by omega
                        go_wp2_with fail
                        go_quiet ((go_at_call 63; refine (unhide HC _).mono ?_; rintro e w9 ⟨rfl, rfl⟩; exact ⟨rfl, _, rfl⟩))
                        go_wp2
                        go_roundg (5 - (jj + 1))
                        case measure => omega
                        case rel => exact ⟨i2, jj + 1, dj, by go_num, by go_num, by omega, Nat.le_refl _, by omega, by omega, hsj, (hide ((unhide hLj).grown rfl)), (hide ⟨(unhide hGj).os, (unhide hGj).tape, (unhide hGj).output, (unhide hGj).size, (unhide hGj).block⟩), hide (by rw [← unhide hOk, unhide HRS])⟩
                    · have HE := hide (unhide HGo rfl)
                      clear HSt HGo
                      go_wp2_with fail
                      go_quiet ((go_at_call 63; refine (unhide HC _).mono ?_; rintro e w9 ⟨rfl, rfl⟩; exact ⟨rfl, _, rfl⟩))
                      go_wp2_with fail
                      go_region
                      all_goals go_wp2
                      go_roundg u
                      case measure => (have := unhide hu'; omega)
                      case rel => exact ⟨u, swp dj j u, by go_num, by have := unhide hu'; omega, Nat.le_refl _, hide (by rw [swp_size]; exact unhide hsj), hide (unhide HSw _), hide (gb_trans (gb_drew (unhide hGj) _) (gb_swap _ _ _ _ _ _)), hide (by rw [← unhide HE]; exact unhide hSj)⟩
              · rw [if_neg h2] at HRS
                have x1 : ¬ (2 : Int) ≤ q1 := by omega
                by_cases h3 : q2 ≥ 2
                · rw [if_pos h3] at HRS
                  have w1 : (2 : Int) ≤ q2 := by omega
                  obtain ⟨e1, he1⟩ : ∃ e, e = i2 + 1 := ⟨_, rfl⟩
                  have w2 : IntKind.i64.wrap ((i2 : Int) + 1) = (e1 : Int) := by rw [IntKind.wrap_i64]; omega
                  rw [← he1] at HRS
                  have HE1 := hide he1
                  clear he1 z7
                  go_wp2_with fail
                  go_region
                  all_goals go_wp2_with fail
                  go_loopg [10] (b + 1) (fun g s10 wr => ∃ (j' : Nat) (dn : Array Nat), s10 = .int .i64 j' ∧ e1 ≤ j' ∧ j' ≤ b ∧ b + 1 - j' ≤ g ∧ Hid (dn.size = d.size) ∧ Hid (LiesU wr blk dn) ∧ Hid (w.grownBy wr (some blk)) ∧ Hid (shiftUp ltN b j' dn = shiftUp ltN b e1 dk2))
                  case atStart => exact ⟨e1, dk2, rfl, Nat.le_refl _, by have := unhide HE1; omega, by have := unhide HE1; omega, HZ2, HSx, HGx, hide rfl⟩
                  case round =>
                    obtain ⟨j', dn, rfl, hje, hjb, hgn, hsn, hLn, hGn, hSn⟩ := hrel
                    by_cases hjl2 : j' < b
                    · obtain ⟨u', hu2⟩ : ∃ u, u = j' - 1 := ⟨_, rfl⟩
                      have hds := unhide hsn
                      have hee := unhide HE1
                      obtain ⟨c1, f1⟩ := (unhide hLn).cell j' (by omega)
                      obtain ⟨c2, f2⟩ := (unhide hLn).cell u' (by omega)
                      have HGo := hide (up_go dn b j' hjl2)
                      have HSt := hide (fun h => up_stop dn b j' (.inr h))
                      have HSw := hide (fun n => ((unhide hLn).drew n).swap j' u' (by omega) (by omega))
                      rw [← hu2] at HGo HSt
                      have v1 : (j' : Int) < b := by omega
                      have v2 : IntKind.i64.wrap ((j' : Int) - 1) = (u' : Int) := by rw [IntKind.wrap_i64]; omega
                      have v3 : (j' : Int) < d.size := by omega
                      have v4 : (u' : Int) < d.size := by omega
                      have v5 : IntKind.i64.wrap ((j' : Int) + 1) = ((j' + 1 : Nat) : Int) := by rw [IntKind.wrap_i64]; omega
                      have m3 : ¬ j' = u' := by omega
                      have m4 : ¬ u' = j' := by omega
                      clear hds hee hu2
                      generalize dn[j']! = x2' at *
                      generalize dn[u']! = y2' at *
                      have HC := hide (less67 x2' y2')
                      generalize ltN x2' y2' = r at *
                      cases r
                      · have HD4 := hide (show shiftUp ltN b e1 dk2 = dn by rw [← unhide hSn, unhide HSt rfl])
                        rw [unhide HD4] at HRS
                        clear HSt HGo HSw
                        go_wp2_with fail
                        go_quiet ((go_at_call 63; refine (unhide HC _).mono ?_; rintro e w9 ⟨rfl, rfl⟩; exact ⟨rfl, _, rfl⟩))
                        go_wp2
                        go_roundg (5 - (jj + 1))
                        case measure => omega
                        case rel => exact ⟨i2, jj + 1, dn, by go_num, by go_num, by omega, Nat.le_refl _, by omega, by omega, hsn, hide ((unhide hLn).grown rfl), hide ⟨(unhide hGn).os, (unhide hGn).tape, (unhide hGn).output, (unhide hGn).size, (unhide hGn).block⟩, hide (by rw [← unhide hOk, unhide HRS])⟩
                      · have HE := hide (unhide HGo rfl)
                        clear HSt HGo
                        go_wp2_with fail
                        go_quiet ((go_at_call 63; refine (unhide HC _).mono ?_; rintro e w9 ⟨rfl, rfl⟩; exact ⟨rfl, _, rfl⟩))
                        go_wp2_with fail
                        go_region
                        all_goals go_wp2
                        go_roundg (b + 1 - (j' + 1))
                        case measure => omega
                        case rel => exact ⟨j' + 1, swp dn j' u', by go_num, by omega, by omega, Nat.le_refl _, hide (by rw [swp_size]; exact unhide hsn), hide (unhide HSw _), hide (gb_trans (gb_drew (unhide hGn) _) (gb_swap _ _ _ _ _ _)), hide (by rw [← unhide HE]; exact unhide hSn)⟩
                    · have HD4 := hide (show shiftUp ltN b e1 dk2 = dn by rw [← unhide hSn, up_stop dn b j' (.inl hjl2)])
                      rw [unhide HD4] at HRS
                      have v1 : ¬ (j' : Int) < b := by omega
                      go_wp2
                      go_roundg (5 - (jj + 1))
                      case measure => omega
                      case rel => exact ⟨i2, jj + 1, dn, by go_num, by go_num, by omega, Nat.le_refl _, by omega, by omega, hsn, hLn, hGn, hide (by rw [← unhide hOk, unhide HRS])⟩
                · rw [if_neg h3] at HRS
                  have w1 : ¬ (2 : Int) ≤ q2 := by omega
                  go_wp2_with fail
                  go_region
                  all_goals go_wp2
                  go_roundg (5 - (jj + 1))
                  case measure => omega
                  case rel => exact ⟨i2, jj + 1, dk2, by go_num, by go_num, by omega, Nat.le_refl _, by omega, by omega, HZ2, HSx, HGx, hide (by rw [← unhide hOk, unhide HRS])⟩
        · have hib2 : i2 = b := by omega
          have HRS := hide (unhide HST i2 (by rw [← unhide hSi]; exact ss_stop dk b i2 (.inl hlt)))
          rw [if_pos hib2] at HRS
          clear HST
          have z1 : ¬ (i2 : Int) < b := by omega
          clear hds
          go_wp2_with fail
          have z2 : decide ((i2 : Int) < b) = false := decide_eq_false (by omega)
          go_quiet (fail)
          have z3 : (i2 : Int) = b := by omega
          go_wp2
          go_ret
          rw [← unhide hOk, unhide HRS]
          exact ⟨rfl, (unhide hLi).grown rfl, ⟨(unhide hGi).os, (unhide hGi).tape, (unhide hGi).output, (unhide hGi).size, (unhide hGi).block⟩⟩
    · have hj : jj = 5 := by omega
      subst hj
      go_wp2
      go_ret
      have := unhide hOk
      simp only [Nat.sub_self, partialIns] at this
      rw [← this]
      exact ⟨rfl, unhide hLk, unhide hGk⟩
end Go.Proofs.YtmemceindohklaaDoor

/-! Ki -/
namespace Go.Proofs.YtmemceindohklaaDoor
open Go Go.Proofs Go.RowKit Go.Sort
set_option linter.unusedSimpArgs false
set_option linter.unusedVariables false
/-- The cell of a random number. -/
def Rn (w : World) (B : Nat) (n : Nat) : Prop := w.heap[B]? = some (.cells #[.int .u64 (n : Int)] 132 (0, 0))
theorem Rn.cell {w : World} {B n : Nat} (h : Rn w B n) : w.cell? ⟨B, 0, none⟩ = some (.int .u64 (n : Int)) ∧ w.frozen? ⟨B, 0, none⟩ = false ∧ B < w.heap.size := by
  unfold Rn at h
  exact ⟨by simp [go_sem, World.cell?, h], by simp [go_sem, World.frozen?, h], (Array.getElem?_eq_some_iff.1 h).1⟩
theorem next80 (B r : Nat) (w : World) (h : Rn w B r) (hr : r < 2 ^ 64) :
    Calls Tryd.prog 72 #[.pointer (some ⟨B, 0, none⟩)] w fun e w' => ∃ r' : Nat, r' < 2 ^ 64 ∧ e = .returned (.int .u64 r') ∧ Rn w' B r' ∧ w.grownBy w' (some B) := by
  obtain ⟨c, f, hl⟩ := h.cell
  obtain ⟨s1, hs1⟩ : ∃ s1, s1 = r * 8192 % 18446744073709551616 := ⟨_, rfl⟩
  have a1 : IntKind.u64.wrap ((r : Int) * 8192) = (s1 : Int) := by simp [IntKind.wrap, IntKind.bits, IntKind.signed]; omega
  obtain ⟨r1, hr1⟩ : ∃ r1, r1 = r ^^^ s1 := ⟨_, rfl⟩
  have l1 : r1 < 2 ^ 64 := by rw [hr1]; exact Nat.xor_lt_two_pow hr (by omega)
  have b1 : bits .xor .u64 (r : Int) (s1 : Int) = (r1 : Int) := by rw [hr1]; exact u64_xor_nat r s1 hr (by omega)
  obtain ⟨s2, hs2⟩ : ∃ s2, s2 = r1 / 128 := ⟨_, rfl⟩
  have a2 : (r1 : Int) / 128 = (s2 : Int) := by omega
  obtain ⟨r2, hr2⟩ : ∃ r2, r2 = r1 ^^^ s2 := ⟨_, rfl⟩
  have l2 : r2 < 2 ^ 64 := by rw [hr2]; exact Nat.xor_lt_two_pow l1 (by omega)
  have b2 : bits .xor .u64 (r1 : Int) (s2 : Int) = (r2 : Int) := by rw [hr2]; exact u64_xor_nat r1 s2 l1 (by omega)
  obtain ⟨s3, hs3⟩ : ∃ s3, s3 = r2 * 131072 % 18446744073709551616 := ⟨_, rfl⟩
  have a3 : IntKind.u64.wrap ((r2 : Int) * 131072) = (s3 : Int) := by simp [IntKind.wrap, IntKind.bits, IntKind.signed]; omega
  obtain ⟨r3, hr3⟩ : ∃ r3, r3 = r2 ^^^ s3 := ⟨_, rfl⟩
  have l3 : r3 < 2 ^ 64 := by rw [hr3]; exact Nat.xor_lt_two_pow l2 (by omega)
  have b3 : bits .xor .u64 (r2 : Int) (s3 : Int) = (r3 : Int) := by rw [hr3]; exact u64_xor_nat r2 s3 l2 (by omega)
  have HL := hide (And.intro l3 h)
  clear l1 l2 l3 hr h hs1 hr1 hs2 hr2 hs3 hr3
  go_enter Tryd.func72, Tryd.ntmps72
  go_wp2_with fail
  go_region
  all_goals go_wp2_with fail
  go_region
  all_goals go_wp2_with fail
  go_region
  obtain ⟨X, hX⟩ : ∃ X, X = (((w.setCell ⟨B, 0, none⟩ (.int .u64 (r1 : Nat))).setCell ⟨B, 0, none⟩ (.int .u64 (r2 : Nat))).setCell ⟨B, 0, none⟩ (.int .u64 (r3 : Nat))).drew.drew.drew := ⟨_, rfl⟩
  have hR : Rn X B r3 := by
    have h := (unhide HL).2
    unfold Rn at *
    rw [hX]
    show ((((w.setCell ⟨B, 0, none⟩ (.int .u64 (r1 : Nat))).setCell ⟨B, 0, none⟩ (.int .u64 (r2 : Nat))).setCell ⟨B, 0, none⟩ (.int .u64 (r3 : Nat)))).heap[B]? = _
    simp [World.setCell, Array.getElem?_modify, h]
  have hG : w.grownBy X (some B) := by
    rw [hX]
    have g0 := gb_trans (gb_trans (gb_set w B 0 (.int .u64 (r1 : Nat))) (gb_set _ B 0 (.int .u64 (r2 : Nat)))) (gb_set _ B 0 (.int .u64 (r3 : Nat)))
    exact ⟨g0.os, g0.tape, g0.output, g0.size, g0.block⟩
  rw [← hX]
  have HF := hide (And.intro hR hG)
  obtain ⟨c', f', hl'⟩ := hR.cell
  clear hX hR hG
  go_wp2
  go_ret
  exact ⟨r3, (unhide HL).1, rfl, (unhide HF).1, (unhide HF).2⟩
end Go.Proofs.YtmemceindohklaaDoor
