import Derived.Test.YtmgflhhealdfoaaGreatDoorRi
set_option linter.all false
namespace Go.Proofs.YtmgflhhealdfoaaGreatDoor
set_option maxHeartbeats 1000000
section
open Go Go.Proofs Go.Maps Go.RowKit FM
theorem ex_neqE {o : Oper} {a : Act} {w : World} {x y : Operand} {n m : Int} {r : Bool} (ho : o.op = .binOp .neq 29 x y 29) (hx : a.eval x = .int .i64 n) (hc : a.eval y = .int .i64 m) (h : (n != m) = r) : (execOp a.eval o).run Tryz.prog w = .ok (.value (.bool r)) w := by
  unfold execOp
  simp only [ho, hx, hc]
  simp [go_sem, eqGuard, h]
set_option maxHeartbeats 2000000 in
set_option maxRecDepth 100000 in
theorem unsound_any (o : OP) (hO : OkO o) (w : World) (hT : Lib.Utf8Tabs 1 2 w) : Calls Tryz.prog 31 #[o.agg] w fun e w' => e = .returned (.bool (!sndV o)) ∧ Below w.heap.size w w' := by
  have SS := hide (Sy.nil w [])
  have HT := hide hT
  have HN := hide (fun (X : World) => noReg_any o.t X)
  have HK := hide (fun (X : World) hT => kcheck o.k X hT)
  have HR := hide (regs_any o)
  have HU := hide (usesKey_any o.c)
  have HE := hide (rest_any o)
  have HO := hide hO
  have H1 := hide hO.2.2
  have HS : Hid (sndV o = (rgB o.t && (!(regL o).any (fun n => !rgB n) && ((!useK o.c || goodK o.k) && rstV o)))) := hide rfl
  have hc1 : decide (o.c < 1) = false := decide_eq_false (by have := hO.2.2; unfold OkC at this; omega)
  have hc2 : decide (24 < o.c) = false := decide_eq_false (by have := hO.2.2; unfold OkC at this; omega)
  clear hT hO
  simp only [pagg, kagg] at *
  generalize sndV o = sv at *
  go_enter Tryz.func31, Tryz.ntmps31
  go_wp2_with (first | go_skip | ((with_reducible show wpList _ _ _ _ _ _); first | (refine zB 40 (o.cs) (by rfl) rfl rfl rfl SS ?_; clear SS; intro X1 B1 SS; simp only [Act.put, n1, n2, n3]) | (refine z1 3 Tryz.isAgg3 0 (by rfl) rfl rfl SS rfl rfl ?_; simp only [Act.put, n1, n2, n3]) | (refine zL (o.cs) 40 32 0 rwP_ szP_ (by rfl) rfl rfl SS rfl rfl rfl ?_; simp only [Act.put, n1, n2, n3]) | (refine zL (o.k.cs) 26 2 0 rwK szK (by rfl) rfl rfl SS rfl rfl rfl ?_; simp only [Act.put, n1, n2, n3]) | (refine rd (by rfl) (ex_ltI rfl rfl rfl hc1) ?_; simp only [Act.put, n1, n2, n3]) | (refine rd (by rfl) (ex_gtI2 rfl rfl rfl hc2) ?_; simp only [Act.put, n1, n2, n3]) | (refine rd (by rfl) (ex_neqE rfl rfl rfl hne) ?_; simp only [Act.put, n1, n2, n3])))
  refine (unhide HN _).mono ?_
  rintro e0 X2 ⟨rfl, hb2⟩
  replace SS := hide ((unhide SS).on hb2)
  clear hb2
  cases ht : rgB o.t
  · go_wp2_with (first | go_skip | ((with_reducible show wpList _ _ _ _ _ _); first | (refine zB 40 (o.cs) (by rfl) rfl rfl rfl SS ?_; clear SS; intro X1 B1 SS; simp only [Act.put, n1, n2, n3]) | (refine z1 3 Tryz.isAgg3 0 (by rfl) rfl rfl SS rfl rfl ?_; simp only [Act.put, n1, n2, n3]) | (refine zL (o.cs) 40 32 0 rwP_ szP_ (by rfl) rfl rfl SS rfl rfl rfl ?_; simp only [Act.put, n1, n2, n3]) | (refine zL (o.k.cs) 26 2 0 rwK szK (by rfl) rfl rfl SS rfl rfl rfl ?_; simp only [Act.put, n1, n2, n3]) | (refine rd (by rfl) (ex_ltI rfl rfl rfl hc1) ?_; simp only [Act.put, n1, n2, n3]) | (refine rd (by rfl) (ex_gtI2 rfl rfl rfl hc2) ?_; simp only [Act.put, n1, n2, n3]) | (refine rd (by rfl) (ex_neqE rfl rfl rfl hne) ?_; simp only [Act.put, n1, n2, n3])))
    go_ret
    exact ⟨by rw [unhide HS]; simp [*], (unhide SS).fr.below⟩
  · go_wp2_with (first | go_skip | ((with_reducible show wpList _ _ _ _ _ _); first | (refine zB 40 (o.cs) (by rfl) rfl rfl rfl SS ?_; clear SS; intro X1 B1 SS; simp only [Act.put, n1, n2, n3]) | (refine z1 3 Tryz.isAgg3 0 (by rfl) rfl rfl SS rfl rfl ?_; simp only [Act.put, n1, n2, n3]) | (refine zL (o.cs) 40 32 0 rwP_ szP_ (by rfl) rfl rfl SS rfl rfl rfl ?_; simp only [Act.put, n1, n2, n3]) | (refine zL (o.k.cs) 26 2 0 rwK szK (by rfl) rfl rfl SS rfl rfl rfl ?_; simp only [Act.put, n1, n2, n3]) | (refine rd (by rfl) (ex_ltI rfl rfl rfl hc1) ?_; simp only [Act.put, n1, n2, n3]) | (refine rd (by rfl) (ex_gtI2 rfl rfl rfl hc2) ?_; simp only [Act.put, n1, n2, n3]) | (refine rd (by rfl) (ex_neqE rfl rfl rfl hne) ?_; simp only [Act.put, n1, n2, n3])))
    refine (unhide HR (unhide H1) _).mono ?_
    rintro e0 X3 ⟨A, c, rfl, hrd, hb3⟩
    replace SS := hide ((unhide SS).on hb3)
    clear hb3
    go_wp2_with (first | go_skip | ((with_reducible show wpList _ _ _ _ _ _); first | (refine zB 40 (o.cs) (by rfl) rfl rfl rfl SS ?_; clear SS; intro X1 B1 SS; simp only [Act.put, n1, n2, n3]) | (refine z1 3 Tryz.isAgg3 0 (by rfl) rfl rfl SS rfl rfl ?_; simp only [Act.put, n1, n2, n3]) | (refine zL (o.cs) 40 32 0 rwP_ szP_ (by rfl) rfl rfl SS rfl rfl rfl ?_; simp only [Act.put, n1, n2, n3]) | (refine zL (o.k.cs) 26 2 0 rwK szK (by rfl) rfl rfl SS rfl rfl rfl ?_; simp only [Act.put, n1, n2, n3]) | (refine rd (by rfl) (ex_ltI rfl rfl rfl hc1) ?_; simp only [Act.put, n1, n2, n3]) | (refine rd (by rfl) (ex_gtI2 rfl rfl rfl hc2) ?_; simp only [Act.put, n1, n2, n3]) | (refine rd (by rfl) (ex_neqE rfl rfl rfl hne) ?_; simp only [Act.put, n1, n2, n3])))
    refine (hasIxI A c (regL o) (fun n => !rgB n) _ hrd (by unfold regL; split <;> (try split) <;> simp) (fun j p hp X hX => noReg_any p X)).mono ?_
    rintro e0 X4 ⟨rfl, hb4⟩
    replace SS := hide ((unhide SS).on hb4)
    clear hb4 hrd
    cases ha : (regL o).any (fun n => !rgB n)
    · go_wp2_with (first | go_skip | ((with_reducible show wpList _ _ _ _ _ _); first | (refine zB 40 (o.cs) (by rfl) rfl rfl rfl SS ?_; clear SS; intro X1 B1 SS; simp only [Act.put, n1, n2, n3]) | (refine z1 3 Tryz.isAgg3 0 (by rfl) rfl rfl SS rfl rfl ?_; simp only [Act.put, n1, n2, n3]) | (refine zL (o.cs) 40 32 0 rwP_ szP_ (by rfl) rfl rfl SS rfl rfl rfl ?_; simp only [Act.put, n1, n2, n3]) | (refine zL (o.k.cs) 26 2 0 rwK szK (by rfl) rfl rfl SS rfl rfl rfl ?_; simp only [Act.put, n1, n2, n3]) | (refine rd (by rfl) (ex_ltI rfl rfl rfl hc1) ?_; simp only [Act.put, n1, n2, n3]) | (refine rd (by rfl) (ex_gtI2 rfl rfl rfl hc2) ?_; simp only [Act.put, n1, n2, n3]) | (refine rd (by rfl) (ex_neqE rfl rfl rfl hne) ?_; simp only [Act.put, n1, n2, n3])))
      refine (unhide HU (unhide H1) _).mono ?_
      rintro e0 X7 ⟨rfl, hb7⟩
      replace SS := hide ((unhide SS).on hb7)
      clear hb7
      cases hu : useK o.c
      · go_wp2_with (first | go_skip | ((with_reducible show wpList _ _ _ _ _ _); first | (refine zB 40 (o.cs) (by rfl) rfl rfl rfl SS ?_; clear SS; intro X1 B1 SS; simp only [Act.put, n1, n2, n3]) | (refine z1 3 Tryz.isAgg3 0 (by rfl) rfl rfl SS rfl rfl ?_; simp only [Act.put, n1, n2, n3]) | (refine zL (o.cs) 40 32 0 rwP_ szP_ (by rfl) rfl rfl SS rfl rfl rfl ?_; simp only [Act.put, n1, n2, n3]) | (refine zL (o.k.cs) 26 2 0 rwK szK (by rfl) rfl rfl SS rfl rfl rfl ?_; simp only [Act.put, n1, n2, n3]) | (refine rd (by rfl) (ex_ltI rfl rfl rfl hc1) ?_; simp only [Act.put, n1, n2, n3]) | (refine rd (by rfl) (ex_gtI2 rfl rfl rfl hc2) ?_; simp only [Act.put, n1, n2, n3]) | (refine rd (by rfl) (ex_neqE rfl rfl rfl hne) ?_; simp only [Act.put, n1, n2, n3])))
        refine (unhide HE (unhide HO) _ (tabs_below (unhide HT) (unhide SS).fr.below)).mono ?_
        rintro e0 X6 ⟨rfl, hb6⟩
        replace SS := hide ((unhide SS).on hb6)
        clear hb6
        cases hr : rstV o
        · go_wp2_with (first | go_skip | ((with_reducible show wpList _ _ _ _ _ _); first | (refine zB 40 (o.cs) (by rfl) rfl rfl rfl SS ?_; clear SS; intro X1 B1 SS; simp only [Act.put, n1, n2, n3]) | (refine z1 3 Tryz.isAgg3 0 (by rfl) rfl rfl SS rfl rfl ?_; simp only [Act.put, n1, n2, n3]) | (refine zL (o.cs) 40 32 0 rwP_ szP_ (by rfl) rfl rfl SS rfl rfl rfl ?_; simp only [Act.put, n1, n2, n3]) | (refine zL (o.k.cs) 26 2 0 rwK szK (by rfl) rfl rfl SS rfl rfl rfl ?_; simp only [Act.put, n1, n2, n3]) | (refine rd (by rfl) (ex_ltI rfl rfl rfl hc1) ?_; simp only [Act.put, n1, n2, n3]) | (refine rd (by rfl) (ex_gtI2 rfl rfl rfl hc2) ?_; simp only [Act.put, n1, n2, n3]) | (refine rd (by rfl) (ex_neqE rfl rfl rfl hne) ?_; simp only [Act.put, n1, n2, n3])))
          go_ret
          exact ⟨by rw [unhide HS]; simp [*], (unhide SS).fr.below⟩
        · go_wp2_with (first | go_skip | ((with_reducible show wpList _ _ _ _ _ _); first | (refine zB 40 (o.cs) (by rfl) rfl rfl rfl SS ?_; clear SS; intro X1 B1 SS; simp only [Act.put, n1, n2, n3]) | (refine z1 3 Tryz.isAgg3 0 (by rfl) rfl rfl SS rfl rfl ?_; simp only [Act.put, n1, n2, n3]) | (refine zL (o.cs) 40 32 0 rwP_ szP_ (by rfl) rfl rfl SS rfl rfl rfl ?_; simp only [Act.put, n1, n2, n3]) | (refine zL (o.k.cs) 26 2 0 rwK szK (by rfl) rfl rfl SS rfl rfl rfl ?_; simp only [Act.put, n1, n2, n3]) | (refine rd (by rfl) (ex_ltI rfl rfl rfl hc1) ?_; simp only [Act.put, n1, n2, n3]) | (refine rd (by rfl) (ex_gtI2 rfl rfl rfl hc2) ?_; simp only [Act.put, n1, n2, n3]) | (refine rd (by rfl) (ex_neqE rfl rfl rfl hne) ?_; simp only [Act.put, n1, n2, n3])))
          go_ret
          exact ⟨by rw [unhide HS]; simp [*], (unhide SS).fr.below⟩
      · go_wp2_with (first | go_skip | ((with_reducible show wpList _ _ _ _ _ _); first | (refine zB 40 (o.cs) (by rfl) rfl rfl rfl SS ?_; clear SS; intro X1 B1 SS; simp only [Act.put, n1, n2, n3]) | (refine z1 3 Tryz.isAgg3 0 (by rfl) rfl rfl SS rfl rfl ?_; simp only [Act.put, n1, n2, n3]) | (refine zL (o.cs) 40 32 0 rwP_ szP_ (by rfl) rfl rfl SS rfl rfl rfl ?_; simp only [Act.put, n1, n2, n3]) | (refine zL (o.k.cs) 26 2 0 rwK szK (by rfl) rfl rfl SS rfl rfl rfl ?_; simp only [Act.put, n1, n2, n3]) | (refine rd (by rfl) (ex_ltI rfl rfl rfl hc1) ?_; simp only [Act.put, n1, n2, n3]) | (refine rd (by rfl) (ex_gtI2 rfl rfl rfl hc2) ?_; simp only [Act.put, n1, n2, n3]) | (refine rd (by rfl) (ex_neqE rfl rfl rfl hne) ?_; simp only [Act.put, n1, n2, n3])))
        refine (unhide HK _ (tabs_below (unhide HT) (unhide SS).fr.below)).mono ?_
        rintro e0 X5 ⟨rfl, hb5⟩
        replace SS := hide ((unhide SS).on hb5)
        clear hb5
        cases hk : goodK o.k
        · have hne : (kErr o.k != 0) = true := by unfold kErr; rw [hk]; rfl
          go_wp2_with (first | go_skip | ((with_reducible show wpList _ _ _ _ _ _); first | (refine zB 40 (o.cs) (by rfl) rfl rfl rfl SS ?_; clear SS; intro X1 B1 SS; simp only [Act.put, n1, n2, n3]) | (refine z1 3 Tryz.isAgg3 0 (by rfl) rfl rfl SS rfl rfl ?_; simp only [Act.put, n1, n2, n3]) | (refine zL (o.cs) 40 32 0 rwP_ szP_ (by rfl) rfl rfl SS rfl rfl rfl ?_; simp only [Act.put, n1, n2, n3]) | (refine zL (o.k.cs) 26 2 0 rwK szK (by rfl) rfl rfl SS rfl rfl rfl ?_; simp only [Act.put, n1, n2, n3]) | (refine rd (by rfl) (ex_ltI rfl rfl rfl hc1) ?_; simp only [Act.put, n1, n2, n3]) | (refine rd (by rfl) (ex_gtI2 rfl rfl rfl hc2) ?_; simp only [Act.put, n1, n2, n3]) | (refine rd (by rfl) (ex_neqE rfl rfl rfl hne) ?_; simp only [Act.put, n1, n2, n3])))
          go_ret
          exact ⟨by rw [unhide HS]; simp [*], (unhide SS).fr.below⟩
        · have hne : (kErr o.k != 0) = false := by unfold kErr; rw [hk]; rfl
          go_wp2_with (first | go_skip | ((with_reducible show wpList _ _ _ _ _ _); first | (refine zB 40 (o.cs) (by rfl) rfl rfl rfl SS ?_; clear SS; intro X1 B1 SS; simp only [Act.put, n1, n2, n3]) | (refine z1 3 Tryz.isAgg3 0 (by rfl) rfl rfl SS rfl rfl ?_; simp only [Act.put, n1, n2, n3]) | (refine zL (o.cs) 40 32 0 rwP_ szP_ (by rfl) rfl rfl SS rfl rfl rfl ?_; simp only [Act.put, n1, n2, n3]) | (refine zL (o.k.cs) 26 2 0 rwK szK (by rfl) rfl rfl SS rfl rfl rfl ?_; simp only [Act.put, n1, n2, n3]) | (refine rd (by rfl) (ex_ltI rfl rfl rfl hc1) ?_; simp only [Act.put, n1, n2, n3]) | (refine rd (by rfl) (ex_gtI2 rfl rfl rfl hc2) ?_; simp only [Act.put, n1, n2, n3]) | (refine rd (by rfl) (ex_neqE rfl rfl rfl hne) ?_; simp only [Act.put, n1, n2, n3])))
          refine (unhide HE (unhide HO) _ (tabs_below (unhide HT) (unhide SS).fr.below)).mono ?_
          rintro e0 X6 ⟨rfl, hb6⟩
          replace SS := hide ((unhide SS).on hb6)
          clear hb6
          cases hr : rstV o
          · go_wp2_with (first | go_skip | ((with_reducible show wpList _ _ _ _ _ _); first | (refine zB 40 (o.cs) (by rfl) rfl rfl rfl SS ?_; clear SS; intro X1 B1 SS; simp only [Act.put, n1, n2, n3]) | (refine z1 3 Tryz.isAgg3 0 (by rfl) rfl rfl SS rfl rfl ?_; simp only [Act.put, n1, n2, n3]) | (refine zL (o.cs) 40 32 0 rwP_ szP_ (by rfl) rfl rfl SS rfl rfl rfl ?_; simp only [Act.put, n1, n2, n3]) | (refine zL (o.k.cs) 26 2 0 rwK szK (by rfl) rfl rfl SS rfl rfl rfl ?_; simp only [Act.put, n1, n2, n3]) | (refine rd (by rfl) (ex_ltI rfl rfl rfl hc1) ?_; simp only [Act.put, n1, n2, n3]) | (refine rd (by rfl) (ex_gtI2 rfl rfl rfl hc2) ?_; simp only [Act.put, n1, n2, n3]) | (refine rd (by rfl) (ex_neqE rfl rfl rfl hne) ?_; simp only [Act.put, n1, n2, n3])))
            go_ret
            exact ⟨by rw [unhide HS]; simp [*], (unhide SS).fr.below⟩
          · go_wp2_with (first | go_skip | ((with_reducible show wpList _ _ _ _ _ _); first | (refine zB 40 (o.cs) (by rfl) rfl rfl rfl SS ?_; clear SS; intro X1 B1 SS; simp only [Act.put, n1, n2, n3]) | (refine z1 3 Tryz.isAgg3 0 (by rfl) rfl rfl SS rfl rfl ?_; simp only [Act.put, n1, n2, n3]) | (refine zL (o.cs) 40 32 0 rwP_ szP_ (by rfl) rfl rfl SS rfl rfl rfl ?_; simp only [Act.put, n1, n2, n3]) | (refine zL (o.k.cs) 26 2 0 rwK szK (by rfl) rfl rfl SS rfl rfl rfl ?_; simp only [Act.put, n1, n2, n3]) | (refine rd (by rfl) (ex_ltI rfl rfl rfl hc1) ?_; simp only [Act.put, n1, n2, n3]) | (refine rd (by rfl) (ex_gtI2 rfl rfl rfl hc2) ?_; simp only [Act.put, n1, n2, n3]) | (refine rd (by rfl) (ex_neqE rfl rfl rfl hne) ?_; simp only [Act.put, n1, n2, n3])))
            go_ret
            exact ⟨by rw [unhide HS]; simp [*], (unhide SS).fr.below⟩
    · go_wp2_with (first | go_skip | ((with_reducible show wpList _ _ _ _ _ _); first | (refine zB 40 (o.cs) (by rfl) rfl rfl rfl SS ?_; clear SS; intro X1 B1 SS; simp only [Act.put, n1, n2, n3]) | (refine z1 3 Tryz.isAgg3 0 (by rfl) rfl rfl SS rfl rfl ?_; simp only [Act.put, n1, n2, n3]) | (refine zL (o.cs) 40 32 0 rwP_ szP_ (by rfl) rfl rfl SS rfl rfl rfl ?_; simp only [Act.put, n1, n2, n3]) | (refine zL (o.k.cs) 26 2 0 rwK szK (by rfl) rfl rfl SS rfl rfl rfl ?_; simp only [Act.put, n1, n2, n3]) | (refine rd (by rfl) (ex_ltI rfl rfl rfl hc1) ?_; simp only [Act.put, n1, n2, n3]) | (refine rd (by rfl) (ex_gtI2 rfl rfl rfl hc2) ?_; simp only [Act.put, n1, n2, n3]) | (refine rd (by rfl) (ex_neqE rfl rfl rfl hne) ?_; simp only [Act.put, n1, n2, n3])))
      go_ret
      exact ⟨by rw [unhide HS]; simp [*], (unhide SS).fr.below⟩
def allS (l : List OP) : Bool := decide (l.length ≤ 256) && l.all sndV
theorem any_not (l : List OP) : (!l.any fun o => !sndV o) = l.all sndV := by
  induction l with
  | nil => rfl
  | cons o l ih => simp [List.any_cons, List.all_cons, ← ih]
theorem le_len {l : List OP} {b : Bool} (h : decide (l.length ≤ 256) = b) : decide ((l.length : Int) ≤ 256) = b := by
  rw [← h]; exact decide_eq_decide.2 (by omega)
set_option maxRecDepth 100000 in
theorem sound_O (A : Option Addr) (cap : Nat) (l : List OP) (w : World) (hR : ReadsO w A l) (hT : Lib.Utf8Tabs 1 2 w) : Calls Tryz.prog 9 #[.slice A l.length cap] w fun e w' => e = .returned (.bool (allS l)) ∧ Below w.heap.size w w' := by
  have SS := hide (Sy.nil w [])
  have HT := hide hT
  have HR := hide hR
  unfold allS
  cases hl : decide (l.length ≤ 256)
  · have hle := le_len hl
    clear hR hT hl
    go_enter Tryz.func9, Tryz.ntmps9
    go_wp2_with (first | go_skip | ((with_reducible show wpList _ _ _ _ _ _); first | (refine rd (by rfl) (ex_lenG 41 40 Tryz.underlying41 rfl rfl) ?_; simp only [Act.put, n1, n2, n3]) | (refine rd (by rfl) (ex_leI rfl rfl rfl hle) ?_; simp only [Act.put, n1, n2, n3])))
    go_ret
    exact ⟨rfl, (unhide SS).fr.below⟩
  · have hle := le_len hl
    have HH := hide (hasIxO A cap l (fun o => !sndV o) w hR (by have := of_decide_eq_true hl; omega) (fun j p hp X hX => unsound_any p (hR j p hp).1 X (tabs_below hT hX)))
    have HA := hide (any_not l)
    clear hR hT hl
    generalize l.any (fun o => !sndV o) = r at *
    generalize l.all sndV = q at *
    go_enter Tryz.func9, Tryz.ntmps9
    go_wp2_with (first | go_skip | ((with_reducible show wpList _ _ _ _ _ _); first | (refine rd (by rfl) (ex_lenG 41 40 Tryz.underlying41 rfl rfl) ?_; simp only [Act.put, n1, n2, n3]) | (refine rd (by rfl) (ex_leI rfl rfl rfl hle) ?_; simp only [Act.put, n1, n2, n3])))
    refine (unhide HH).mono ?_
    rintro e0 X2 ⟨rfl, hb2⟩
    replace SS := hide ((unhide SS).on hb2)
    clear hb2
    go_wp2_with (first | go_skip | ((with_reducible show wpList _ _ _ _ _ _); first | (refine rd (by rfl) (ex_lenG 41 40 Tryz.underlying41 rfl rfl) ?_; simp only [Act.put, n1, n2, n3]) | (refine rd (by rfl) (ex_leI rfl rfl rfl hle) ?_; simp only [Act.put, n1, n2, n3])))
    go_ret
    exact ⟨by rw [← unhide HA]; rfl, (unhide SS).fr.below⟩
def wfE (l : List OP) : Int := if allS l then 0 else 5
set_option maxRecDepth 100000 in
theorem short_O (A : Option Addr) (cap : Nat) (l : List OP) (w : World) (hl : l.length ≤ 256) : Calls Tryz.prog 24 #[.slice A l.length cap] w fun e w' => e = .returned (.int .i64 0) ∧ Below w.heap.size w w' := by
  have hle : decide ((256 : Int) < (l.length : Int)) = false := decide_eq_false (by omega)
  go_enter Tryz.func24, Tryz.ntmps24
  go_wp2_with (first | go_skip | ((with_reducible show wpList _ _ _ _ _ _); first | (refine rd (by rfl) (ex_lenG 41 40 Tryz.underlying41 rfl rfl) ?_; simp only [Act.put, n1, n2, n3]) | (refine rd (by rfl) (ex_gtI2 rfl rfl rfl hle) ?_; simp only [Act.put, n1, n2, n3])))
  go_ret
  exact ⟨rfl, Below.refl _ _⟩
set_option maxRecDepth 100000 in
theorem wellFormed_O (A : Option Addr) (cap : Nat) (l : List OP) (w : World) (hR : ReadsO w A l) (hT : Lib.Utf8Tabs 1 2 w) : Calls Tryz.prog 25 #[.slice A l.length cap] w fun e w' => e = .returned (.int .i64 (wfE l)) ∧ Below w.heap.size w w' := by
  have SS := hide (Sy.nil w [])
  have HH := hide (sound_O A cap l w hR hT)
  clear hR hT
  unfold wfE
  cases hq : allS l
  · rw [hq] at HH
    go_enter Tryz.func25, Tryz.ntmps25
    go_wp2_with fail
    refine (unhide HH).mono ?_
    rintro e0 X2 ⟨rfl, hb2⟩
    replace SS := hide ((unhide SS).on hb2)
    clear hb2
    go_wp2
    go_ret
    exact ⟨rfl, (unhide SS).fr.below⟩
  · rw [hq] at HH
    go_enter Tryz.func25, Tryz.ntmps25
    go_wp2_with fail
    refine (unhide HH).mono ?_
    rintro e0 X2 ⟨rfl, hb2⟩
    replace SS := hide ((unhide SS).on hb2)
    clear hb2
    go_wp2
    go_ret
    exact ⟨rfl, (unhide SS).fr.below⟩
