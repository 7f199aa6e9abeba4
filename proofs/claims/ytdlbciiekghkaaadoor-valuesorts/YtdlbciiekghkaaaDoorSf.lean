import Derived.Test.YtdlbciiekghkaaaDoorSe
import Derived.Lib.SlKept
import Derived.Lib.SliceRun
import Derived.Deep.LoopGhost
import Derived.Deep.RegionWith
import Derived.Shelf.RegionOpen
namespace Go.Proofs.YtdlbciiekghkaaaDoor
open Go Go.Proofs Go.Shelf Go.RowKit Go.Lib Go.Sort FM
theorem same47 (a b : GV) (w : World) : Calls Tryd.prog 47 #[encG a, encG b] w fun e w' => e = .returned (.bool (alikeV sameV a.1 b.1)) ∧ Below w.heap.size w w' := by
  have HA := hide (alike_good 36 sameV a.1 b.1 a.2.1 b.2.1 (alike_num_same a.1.x b.1.x) w)
  unfold encG
  generalize a.1.ifc = u at *
  generalize b.1.ifc = v at *
  generalize alikeV sameV a.1 b.1 = r at *
  clear a b
  go_enter Tryd.func47, Tryd.ntmps47
  go_wp2_with fail
  refine (unhide HA).mono ?_
  rintro e w1 ⟨rfl, hb⟩
  go_wp2
  go_ret
  exact ⟨rfl, hb⟩
theorem lies_step {wr w1 : World} {blk : Nat} {d : Array GV} (h : Lies wr blk d) (hb : Below wr.drew.heap.size wr.drew w1) : Lies w1 blk d := by
  have hl := h.lt
  obtain ⟨r, h⟩ := h
  refine ⟨r, ?_⟩
  rw [hb.block blk (by show blk < wr.heap.size; exact hl)]
  exact h
theorem below_step {w wr w1 : World} {blk : Nat} {d : Array GV} (hB : Below blk w wr) (h : Lies wr blk d) (hb : Below wr.drew.heap.size wr.drew w1) : Below blk w w1 :=
  hB.drew.trans (hb.mono (by show blk ≤ wr.heap.size; exact Nat.le_of_lt h.lt))
theorem lies_set {wr : World} {blk : Nat} {d : Array GV} (h : Lies wr blk d) (k : Nat) (hk : k < d.size) (x : GV) : Lies (wr.setCell ⟨blk, k, none⟩ (encG x)) blk (d.setIfInBounds k x) := by
  obtain ⟨r, h⟩ := h
  refine ⟨r, ?_⟩
  simp [World.setCell, Array.getElem?_modify, h]
  rw [Array.setIfInBounds_append_left (by simpa using hk)]
theorem heap_setCells (T : TypeId) (blk : Nat) : ∀ (vs : List Value) (w : World) (o : Nat) (c : Array Value), w.heap[blk]? = some (.cells c T (0, 0)) →
    ∃ c' : Array Value, (w.setCells blk o vs).heap[blk]? = some (.cells c' T (0, 0)) ∧ c'.size = c.size ∧ ∀ j, j < o → c'[j]? = c[j]?
  | [], w, o, c, h => ⟨c, h, rfl, fun _ _ => rfl⟩
  | v :: vs, w, o, c, h => by
    have h1 : (w.setCell ⟨blk, o, none⟩ v).heap[blk]? = some (.cells (c.setIfInBounds o v) T (0, 0)) := by simp [World.setCell, Array.getElem?_modify, h]
    obtain ⟨c', e1, e2, e3⟩ := heap_setCells T blk vs _ (o + 1) _ h1
    refine ⟨c', e1, by simpa using e2, fun j hj => ?_⟩
    rw [e3 j (by omega), Array.getElem?_setIfInBounds, if_neg (by omega)]
theorem below_setCells (blk : Nat) : ∀ (vs : List Value) (w w1 : World) (o : Nat), Below blk w w1 → Below blk w (w1.setCells blk o vs)
  | [], _, _, _, h => h
  | v :: vs, w, _, o, h => below_setCells blk vs w _ (o + 1) (h.setCell (p := ⟨blk, o, none⟩) (Nat.le_refl _) v)
theorem kept_row {kp : Nat → Bool} {d dk : Array GV} {kk : Nat} (hI : KeptInv kp d d.size kk dk) {w1 : World} {blk : Nat} (hL : Lies w1 blk dk) (vs : List Value) :
    ∃ rest : List Value, (w1.setCells blk kk vs).heap[blk]? = some (.cells ((keptUpTo kp d d.size).map encG ++ rest).toArray 63 (0, 0)) := by
  obtain ⟨r, hL⟩ := hL
  obtain ⟨c', e1, e2, e3⟩ := heap_setCells 63 blk vs w1 kk _ hL
  refine ⟨c'.toList.drop kk, ?_⟩
  rw [e1]
  congr 2
  apply Array.toList_inj.1
  have hlt := hI.lt
  have hds := hI.size
  have ht : c'.toList.take kk = (keptUpTo kp d d.size).map encG := by
    apply List.ext_getElem?
    intro j
    rw [List.getElem?_take, List.getElem?_map]
    by_cases hj : j < kk
    · rw [if_pos hj, hI.low j hj]
      have := e3 j hj
      rw [Array.getElem?_toList, this]
      have hj2 : j < dk.size := by omega
      simp [hj2, Array.getElem?_append_left]
    · rw [if_neg hj, List.getElem?_eq_none (by rw [hI.len]; omega)]
      rfl
  show c'.toList = _
  rw [← ht]
  simp
/-- The places that are kept. -/
def kpG (d : Array GV) (j : Nat) : Bool := decide (j = 0) || !alikeV sameV d[j]!.1 d[j - 1]!.1
set_option maxHeartbeats 4000000 in
set_option maxRecDepth 1000000 in
theorem compact46 (blk : Nat) (cap : Nat) (d : Array GV) (w : World) (hL : Lies w blk d) (hsz : d.size < 4611686018427387904) (hcap : d.size ≤ cap) :
    Calls Tryd.prog 46 #[.slice (some ⟨blk, 0, none⟩) d.size cap, .func (.func 47) #[] #[]] w fun e w' => e = .returned (.slice (some ⟨blk, 0, none⟩) (keptUpTo (kpG d) d d.size).length cap) ∧ Below blk w w' ∧
      ∃ rest : List Value, w'.heap[blk]? = some (.cells ((keptUpTo (kpG d) d d.size).map encG ++ rest).toArray 63 (0, 0)) := by
  obtain ⟨kp, HK⟩ : ∃ kp : Nat → Bool, Hid (kpG d = kp) := ⟨_, rfl⟩
  rw [unhide HK]
  have HS : Hid ((∀ j, j < d.size → kp j = true) → keptUpTo kp d d.size = d.toList) := fun h => by rw [keptUpTo_all _ _ _ h, range_map_get]
  have HL := hide hL
  have HE := hide same47
  clear hL
  by_cases h2 : d.size < 2
  · have h2z : (d.size : Int) < 2 := by omega
    go_enter Tryd.func46, Tryd.ntmps46
    go_wp2
    go_ret
    have e := unhide HS (fun j hj => by rw [← unhide HK]; simp [kpG]; omega)
    rw [e]
    obtain ⟨r, hr⟩ := unhide HL
    refine ⟨by simp, Below.refl _ _, r.toList, ?_⟩
    rw [hr, show d.map encG ++ r = (d.toList.map encG ++ r.toList).toArray from Array.toList_inj.1 (by simp)]
  · have h2z : ¬ (d.size : Int) < 2 := by omega
    go_enter Tryd.func46, Tryd.ntmps46
    go_wp2
    go_loopg [5] d.size (fun g s5 wr => ∃ k : Nat, 1 ≤ k ∧ k ≤ d.size ∧ d.size - k ≤ g ∧ s5 = .int .i64 k ∧ Hid (Lies wr blk d) ∧ Hid (Below blk w wr) ∧ Hid (∀ j, j < k → kp j = true))
    case atStart => exact ⟨1, Nat.le_refl _, by omega, by omega, rfl, HL, hide (Below.refl _ _), hide (fun j hj => by rw [← unhide HK]; simp [kpG]; omega)⟩
    case round =>
      obtain ⟨k, hk1, hk, hg, rfl, hLr, hBr, A⟩ := hrel
      by_cases hlt : k < d.size
      · have c1 := ((unhide hLr).holds k hlt).1
        have c0 := ((unhide hLr).holds (k - 1) (by omega)).1
        simp only [Nat.zero_add] at c0 c1
        generalize hx : d[k]! = x at c1
        generalize hy : d[k - 1]! = y at c0
        have B := hide (And.intro hx hy)
        have hcall := unhide HE x y
        have hr : kp k = !alikeV sameV x.1 y.1 := by
          rw [← unhide HK]
          unfold kpG
          rw [hx, hy]
          simp
          omega
        clear hx hy
        generalize alikeV sameV x.1 y.1 = r at *
        have HR := hide hr
        clear hr
        have hkz : (k : Int) < d.size := by omega
        have HC := hide hcall
        clear hcall
        generalize encG x = vx at *
        generalize encG y = vy at *
        have hBw : blk < wr.heap.size := (unhide hLr).lt
        have z0 : (0 : Int) ≤ k := by omega
        have z1 : (1 : Int) ≤ k := by omega
        have z2 : (k : Int) < 4611686018427387904 := by omega
        have z3 : (k : Int) - 1 < d.size := by omega
        have z4 : (0 : Int) ≤ (k : Int) - 1 := by omega
        have z5 : ((k : Int) - 1).toNat = k - 1 := by omega
        have z6 : IntKind.i64.wrap ((k : Int) - 1) = (k : Int) - 1 := by simp [IntKind.wrap, IntKind.bits, IntKind.signed]; omega
        cases r
        · go_wp2_with fail
          go_region_with (go_at_call 47; refine (unhide HC _).mono ?_; rintro e w1 ⟨rfl, hb⟩)
          all_goals
            have L1 := hide (lies_step (unhide hLr) hb)
            have B1 := hide (below_step (unhide hBr) (unhide hLr) hb)
            clear hb c0 c1
            go_wp2
            go_roundg (d.size - (k + 1))
            case measure => omega
            case rel =>
              refine ⟨k + 1, by omega, by omega, Nat.le_refl _, by go_num, L1, B1, hide (fun j hj => ?_)⟩
              by_cases hj' : j = k
              · rw [hj', unhide HR]; rfl
              · exact unhide A j (by omega)
        · go_wp2_with fail
          go_region_with (go_at_call 47; refine (unhide HC _).mono ?_; rintro e w1 ⟨rfl, hb⟩)
          all_goals
            have L1 := hide (lies_step (unhide hLr) hb)
            have B1 := hide (below_step (unhide hBr) (unhide hLr) hb)
            clear hb c0 c1 hLr hBr
            go_wp2
            clear z0 z1 z3 z4 z5 z6 hkz
            go_loopg [5, 7] d.size (fun g s5 s7 wr => ∃ (kk k2 : Nat) (dk : Array GV), s5 = .int .i64 kk ∧ s7 = .int .i64 k2 ∧ 1 ≤ k2 ∧ k + k2 ≤ d.size ∧ d.size - (k + k2) ≤ g ∧ Hid (Lies wr blk dk) ∧ Hid (Below blk w wr) ∧ Hid (KeptInv kp d (k + k2) kk dk))
            case atStart => exact ⟨k, 1, d, rfl, rfl, Nat.le_refl _, by omega, by omega, L1, B1, hide (KeptInv.start (unhide A) (by rw [unhide HR]; rfl))⟩
            case round =>
              obtain ⟨kk, k2, dk, rfl, rfl, h1, hle, hg2, hLr, hBr, HI⟩ := hrel
              have hkk := (unhide HI).lt
              have hds := (unhide HI).size
              by_cases hlt2 : k + k2 < d.size
              · have cm := ((unhide hLr).holds (k + k2) (by omega)).1
                have cp := ((unhide hLr).holds (k + k2 - 1) (by omega)).1
                rw [(unhide HI).high (k + k2) (by omega)] at cm
                rw [(unhide HI).high (k + k2 - 1) (by omega), show 0 + (k + k2 - 1) = k + (k2 - 1) by omega] at cp
                simp only [Nat.zero_add] at cm
                generalize hx : d[k + k2]! = x' at cm
                generalize hy : d[k + k2 - 1]! = y' at cp
                have hcall := unhide HE x' y'
                have hr : kp (k + k2) = !alikeV sameV x'.1 y'.1 := by
                  rw [← unhide HK]
                  unfold kpG
                  rw [hx, hy]
                  simp
                  omega
                have B2 := hide hx
                clear hx hy
                generalize alikeV sameV x'.1 y'.1 = r at *
                have HR2 := hide hr
                clear hr
                have HC2 := hide hcall
                clear hcall
                generalize encG y' = vy' at *
                have hBw2 : blk < wr.heap.size := (unhide hLr).lt
                have z0 : (0 : Int) ≤ k2 := by omega
                have z1 : (1 : Int) ≤ k2 := by omega
                have z2 : (k2 : Int) < 4611686018427387904 := by omega
                have z3 : (k2 : Int) - 1 < ((d.size - k : Nat) : Int) := by omega
                have z3' : (k2 : Int) < ((d.size - k : Nat) : Int) := by omega
                have z4 : (0 : Int) ≤ (k2 : Int) - 1 := by omega
                have z5 : ((k2 : Int) - 1).toNat = k2 - 1 := by omega
                have z6 : IntKind.i64.wrap ((k2 : Int) - 1) = (k2 : Int) - 1 := by simp [IntKind.wrap, IntKind.bits, IntKind.signed]; omega
                cases r
                · go_wp2_with fail
                  go_region_with (go_at_call 47; refine (unhide HC2 _).mono ?_; rintro e w1 ⟨rfl, hb⟩)
                  all_goals
                    have L2 := hide (lies_step (unhide hLr) hb)
                    have B2' := hide (below_step (unhide hBr) (unhide hLr) hb)
                    clear hb cm cp
                    have cm := ((unhide L2).holds (k + k2) (by omega)).1
                    rw [(unhide HI).high (k + k2) (by omega), unhide B2] at cm
                    obtain ⟨ck, fk⟩ := (unhide L2).holds kk (by omega)
                    simp only [Nat.zero_add] at cm ck fk
                    generalize encG dk[kk]! = old at ck
                    simp only [List.getElem_toArray, List.getElem_cons_succ, List.getElem_cons_zero, Act.put, List.setIfInBounds_toArray, List.set_cons_succ, List.set_cons_zero]
                    have y1 : (0 : Int) ≤ k2 := by omega
                    have y2 : (0 : Int) ≤ kk := by omega
                    have y3 : (kk : Int) < d.size := by omega
                    have hst := encG_one.store Tryd.prog
                    have hcl0 := encG_one.cells
                    simp only [Value.cells] at hcl0
                    go_wp2
                    go_roundg (d.size - (k + (k2 + 1)))
                    case measure => omega
                    case rel =>
                      refine ⟨kk + 1, k2 + 1, dk.setIfInBounds kk x', by go_num, by go_num, by omega, by omega, Nat.le_refl _, ?_, ?_, ?_⟩
                      · exact hide (lies_set (unhide L2) kk (by omega) x')
                      · first | exact hide ((unhide B2').setCell (p := ⟨blk, kk, none⟩) (Nat.le_refl _) _) | exact hide ((unhide B2').setCell (p := ⟨blk, kk, none⟩) (Nat.le_refl _) _).drew
                      · have := (unhide HI).keep hlt2 (by rw [unhide HR2]; rfl)
                        rw [unhide B2] at this
                        exact hide this
                · go_wp2_with fail
                  go_region_with (go_at_call 47; refine (unhide HC2 _).mono ?_; rintro e w1 ⟨rfl, hb⟩)
                  all_goals
                    have L2 := hide (lies_step (unhide hLr) hb)
                    have B2' := hide (below_step (unhide hBr) (unhide hLr) hb)
                    clear hb cm cp
                    simp only [List.getElem_toArray, List.getElem_cons_succ, List.getElem_cons_zero, Act.put, List.setIfInBounds_toArray, List.set_cons_succ, List.set_cons_zero]
                    go_wp2
                    go_roundg (d.size - (k + (k2 + 1)))
                    case measure => omega
                    case rel => exact ⟨kk, k2 + 1, dk, rfl, by go_num, by omega, by omega, Nat.le_refl _, L2, B2', hide ((unhide HI).skip (by rw [unhide HR2]; rfl))⟩
              · have hend2 : k + k2 = d.size := by omega
                have z3' : ¬ (k2 : Int) < ((d.size - k : Nat) : Int) := by omega
                have hH := (unhide hLr).holds
                have hcl : ∀ ty, (Builtin.clear_ #[73] ty #[.slice (some ⟨blk, kk, none⟩) (d.size - kk) (cap - kk)]).run Tryd.prog wr = .ok (.tuple #[]) (wr.setCells blk kk (List.replicate (d.size - kk) .nilIface)) :=
                  fun ty => Lib.run_clear_slice wr 73 63 ty .nilIface (by kernel_rfl) (fun w => by rfl) rfl rfl blk kk _ _ (by omega) (fun j hj => by have := (hH (kk + j) (by omega)).1; rw [Nat.zero_add] at this; rw [this]; rfl) (fun j hj => by have := (hH (kk + j) (by omega)).2; rw [Nat.zero_add] at this; exact this)
                clear hH
                go_wp2
                go_ret
                have hI := unhide HI
                rw [hend2] at hI
                refine ⟨by rw [hI.len]; rfl, below_setCells blk _ _ _ _ (unhide hBr), kept_row hI (unhide hLr) _⟩
      · have hend : k = d.size := by omega
        have hkz : ¬ (k : Int) < d.size := by omega
        go_wp2
        go_ret
        have e := unhide HS (fun j hj => unhide A j (by omega))
        rw [e]
        obtain ⟨r, hr⟩ := unhide hLr
        refine ⟨by simp, unhide hBr, r.toList, ?_⟩
        rw [hr, show d.map encG ++ r = (d.toList.map encG ++ r.toList).toArray from Array.toList_inj.1 (by simp)]
end Go.Proofs.YtdlbciiekghkaaaDoor
