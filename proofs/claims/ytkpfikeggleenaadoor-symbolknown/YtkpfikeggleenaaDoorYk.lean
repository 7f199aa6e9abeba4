import Derived.Test.YtkpfikeggleenaaDoorYj
namespace Go.Proofs.YtkpfikeggleenaaDoor
open Go Go.Proofs Go.Maps Go.RowKit
set_option linter.unusedSimpArgs false
set_option linter.unusedVariables false
set_option maxHeartbeats 1000000
/-- A slice whose elements are these values. -/
def ReadsV (w : World) (A : Option Addr) (l : List VV) : Prop := ∀ j u, l[j]? = some u → ∃ b off, A = some ⟨b, off, none⟩ ∧ b < w.heap.size ∧ w.rangeAt b (off + j * 5) u.cs
theorem idx34 (w : World) : (sizeOf (Tryd.prog.elem 34)).run Tryd.prog w = .ok 5 w := by kernel_rfl
theorem und34 : Tryd.prog.underlying 34 = some (.slice (Tryd.prog.elem 34)) := by kernel_rfl
theorem ex_add1 {o : Oper} {a : Act} {w : World} {x y : Operand} {n : Nat} (ho : o.op = .binOp .add 3 x y 3) (hx : a.eval x = .int .i64 (n : Nat)) (hc : a.eval y = .int .i64 1) (hn : n < 1000000) : (execOp a.eval o).run Tryd.prog w = .ok (.value (.int .i64 ((n + 1 : Nat) : Int))) w := by
  unfold execOp
  simp only [ho, hx, hc]
  have e : IntKind.i64.wrap ((n : Int) + 1) = (n : Int) + 1 := by
    rw [IntKind.wrap_i64]
    omega
  simp [go_sem, eqGuard, e]
theorem ex_neqI {o : Oper} {a : Act} {w : World} {x y : Operand} {n : Int} (ho : o.op = .binOp .neq 3 x y 3) (hx : a.eval x = .int .i64 n) (hc : a.eval y = .int .i64 n) : (execOp a.eval o).run Tryd.prog w = .ok (.value (.bool false)) w := by
  unfold execOp
  simp only [ho, hx, hc]
  simp [go_sem, eqGuard]
theorem eqB_self (u : VV) : eqB u u = true := by
  unfold eqB
  simp
def NI (w wr : World) (r m : Nat) (ll : List SY) : Prop := ∃ sv, (RG.mk r m sv ll).Is wr 0 0 (fun _ => none) ∧ Fr w wr [] ∧ (∀ b ∈ (RG.mk r m sv ll).blocks, w.heap.size ≤ b)
set_option maxHeartbeats 4000000 in
set_option maxRecDepth 100000 in
theorem law_new (A : Option Addr) (cap : Nat) (l : List VV) (w : World) (hT : Tabs w) (hr : ReadsV w A l) : Calls Tryd.prog 5 #[.slice A l.length cap] w fun e w' => e = .returned (.bool true) ∧ Below w.heap.size w w' := by
  have HW := hide (works11 w hT)
  have HT := hide hT
  have HR := hide hr
  clear hT hr
  by_cases hbig : 1000 < l.length
  · have hz : decide ((1000 : Int) < (l.length : Int)) = true := decide_eq_true (by omega)
    clear hbig
    go_enter Tryd.func5, Tryd.ntmps5
    go_wp2_with fail
    refine (unhide HW).mono ?_
    rintro e X1 ⟨rfl, hb⟩
    have HB := hide hb
    clear hb
    go_wp2_with (first | go_skip | ((with_reducible show wpList _ _ _ _ _ _); first | ((refine rd (by rfl) (ex_lenG 34 44 Tryd.underlying34 rfl rfl) ?_); simp only [Act.put, List.setIfInBounds_toArray, List.set_cons_succ, List.set_cons_zero])))
    go_ret
    exact ⟨rfl, unhide HB⟩
  · have hz : decide ((1000 : Int) < (l.length : Int)) = false := decide_eq_false (by omega)
    have HL : Hid (l.length ≤ 1000) := hide (by omega)
    clear hbig
    go_enter Tryd.func5, Tryd.ntmps5
    go_wp2_with fail
    refine (unhide HW).mono ?_
    rintro e X1 ⟨rfl, hb⟩
    have F1 := Fr.of_below hb []
    have HN := hide (new12 X1 ((unhide HT).on hb))
    have HF := hide F1
    clear hb F1
    go_wp2_with (first | go_skip | ((with_reducible show wpList _ _ _ _ _ _); first | ((refine rd (by rfl) (ex_lenG 34 44 Tryd.underlying34 rfl rfl) ?_); simp only [Act.put, List.setIfInBounds_toArray, List.set_cons_succ, List.set_cons_zero])))
    refine (unhide HN).mono ?_
    rintro e X2 ⟨⟨r, m, sv, l2⟩, rfl, hI, hl, hge, hb⟩
    dsimp only at *
    subst hl
    have C14 : Calls Tryd.prog 14 #[.pointer (some ⟨r, 0, none⟩)] X2 fun e w' => e = .returned (.int .i64 (13 : Nat)) ∧ w' = X2 := count14 ⟨r, m, sv, wkY⟩ X2 hI
    have HC := hide C14
    have HI : Hid (NI w X2 r m wkY) := hide ⟨sv, hI, (unhide HF).on hb, fun b hb2 => Nat.le_trans (unhide HF).size (hge b hb2)⟩
    clear C14 hI hge hb HN HW HF
    go_wp2_with fail
    refine (unhide HC).mono ?_
    rintro e X9 ⟨rfl, h9⟩
    rw [h9]
    clear h9 X9 HC
    go_wp2_with fail
    go_loopg [4, 5] l.length (fun gm s4 s5 wr => ∃ (i : Nat) (ll : List SY), s4 = .int .i64 (ll.length : Nat) ∧ s5 = .int .i64 i ∧ i ≤ l.length ∧ ll.length ≤ 13 + i ∧ l.length - i ≤ gm ∧ Hid (NI w wr r m ll))
    case atStart => exact ⟨0, wkY, rfl, rfl, by omega, by show 13 ≤ 13; omega, by omega, HI⟩
    case round =>
      clear HI
      obtain ⟨i, ll, rfl, rfl, hi, hll, hgm, HI⟩ := hrel
      by_cases hlt : i < l.length
      · have hlz : decide ((i : Int) < (l.length : Int)) = true := decide_eq_true (by omega)
        have hw1 : IntKind.i64.wrap ((i : Int) + 1) = (i : Int) + 1 := by have := unhide HL; rw [IntKind.wrap_i64]; omega
        obtain ⟨u, hu⟩ : ∃ u, l[i]? = some u := ⟨_, List.getElem?_eq_getElem hlt⟩
        obtain ⟨b, off, hA, hbl, hrg⟩ := unhide HR i u hu
        subst hA
        have HG : Hid (∀ X, Fr w X [] → X.rangeAt b (off + i * 5) u.cs) := hide (fun X hX j v hv => (World.cell?_of_block (hX.block b hbl (by simp))).trans (hrg j v hv))
        have HLT := hide hlt
        obtain ⟨sv, hI, hF, hge⟩ := unhide HI
        have LL : Hid (Hq w wr [] []) := hide ⟨hF, (fun q hq => by cases hq), by simp⟩
        have hT := (unhide HT).fr hF (by simp)
        have hlll : ll.length < 10000 := by have := unhide HL; omega
        cases hd : desV u
        · have HM := hide (make_no ⟨r, m, sv, ll⟩ u wr hI hT hd)
          have HI2 := hide hI
          have HGE2 := hide hge
          rw [vagg] at HM
          clear hu hrg hbl hd hlt hI hT hlll hF hge
          go_wp2_with (first | go_skip | ((with_reducible show wpList _ _ _ _ _ _); first | ((refine rd (by rfl) (ex_lenG 34 44 Tryd.underlying34 rfl rfl) ?_); simp only [Act.put, List.setIfInBounds_toArray, List.set_cons_succ, List.set_cons_zero]) | ((refine rd (by rfl) (ex_indexG 34 5 i und34 idx34 rfl rfl rfl (unhide HLT)) ?_); simp only [Act.put, List.setIfInBounds_toArray, List.set_cons_succ, List.set_cons_zero]) | ((refine rd (by rfl) (ex_loadR 44 5 row44 siz44 rfl rfl (unhide HG _ (unhide LL).fr) rfl) ?_); simp only [Act.put, List.setIfInBounds_toArray, List.set_cons_succ, List.set_cons_zero])))
          refine (unhide HM).mono ?_
          rintro e X3 ⟨rfl, hb⟩
          have HI3 := hide (And.intro ((unhide HI2).on hb) ((unhide LL).fr.on hb))
          clear hb HM HI2 LL
          go_wp2_with fail
          refine (num16 5 ⟨by omega, by omega⟩ _).mono ?_
          rintro e X9 ⟨rfl, h9⟩
          rw [h9]
          clear h9 X9
          go_wp2_with fail
          refine (num16 5 ⟨by omega, by omega⟩ _).mono ?_
          rintro e X9 ⟨rfl, h9⟩
          rw [h9]
          clear h9 X9
          have C14 := hide (count14 _ X3 (unhide HI3).1)
          go_wp2_with fail
          refine (unhide C14).mono ?_
          rintro e X9 ⟨rfl, h9⟩
          rw [h9]
          clear h9 X9 C14
          dsimp only
          go_wp2
          go_roundg (l.length - (i + 1))
          case measure => have := unhide HLT; omega
          case rel => exact ⟨i + 1, ll, rfl, by go_num, by have := unhide HLT; omega, by omega, by omega, hide ⟨sv, (unhide HI3).1, (unhide HI3).2, unhide HGE2⟩⟩
        · have HM := hide (make_ok ⟨r, m, sv, ll⟩ u wr hI hT hd hlll)
          have HGE2 := hide hge
          have HSM := hide (des_size hd)
          rw [vagg] at HM
          clear hu hrg hbl hd hlt hI hT hF hge
          have HLL := hide hlll
          clear hlll
          go_wp2_with (first | go_skip | ((with_reducible show wpList _ _ _ _ _ _); first | ((refine rd (by rfl) (ex_lenG 34 44 Tryd.underlying34 rfl rfl) ?_); simp only [Act.put, List.setIfInBounds_toArray, List.set_cons_succ, List.set_cons_zero]) | ((refine rd (by rfl) (ex_indexG 34 5 i und34 idx34 rfl rfl rfl (unhide HLT)) ?_); simp only [Act.put, List.setIfInBounds_toArray, List.set_cons_succ, List.set_cons_zero]) | ((refine rd (by rfl) (ex_loadR 44 5 row44 siz44 rfl rfl (unhide HG _ (unhide LL).fr) rfl) ?_); simp only [Act.put, List.setIfInBounds_toArray, List.set_cons_succ, List.set_cons_zero])))
          refine (unhide HM).mono ?_
          rintro e X3 ⟨rfl, sv3, hI3, hF3, hS3⟩
          dsimp only at hI3 hF3 hS3 ⊢
          have hge3 := RG.ge_of (l' := ll ++ [SY.mk u false]) (unhide HGE2) hS3 (unhide LL).fr.size
          replace LL := hide ((unhide LL).step hF3 (fun b hb => .inr (unhide HGE2 b hb)) (fun q hq => by cases hq))
          have HI3 := hide hI3
          have HGE3 := hide hge3
          clear hI3 hF3 hS3 hge3 HM
          have hget : (ll ++ [SY.mk u false])[ll.length]? = some (SY.mk u false) := by simp
          have hlen : (ll ++ [SY.mk u false]).length ≤ 100000 := by have := unhide HLL; simp; omega
          have HK := hide (fun X hX => keyFor_in ⟨r, m, sv3, ll ++ [SY.mk u false]⟩ ll.length (SY.mk u false) X ((unhide HI3).on hX) hget hlen)
          have HD := hide (fun X hX => desc_in ⟨r, m, sv3, ll ++ [SY.mk u false]⟩ ll.length (SY.mk u false) X ((unhide HI3).on hX) hget hlen)
          replace HK : Hid (∀ X, Below X3.heap.size X3 X → Calls Tryd.prog 17 #[.pointer (some ⟨r, 0, none⟩), .int .i64 ((ll.length + 1 : Nat) : Int)] X fun e w' => e = .returned (.tuple #[.string ⟨#[]⟩, .bool false, .int .i64 0]) ∧ Below X.heap.size X w') := HK
          replace HD : Hid (∀ X, Below X3.heap.size X3 X → Calls Tryd.prog 18 #[.pointer (some ⟨r, 0, none⟩), .int .i64 ((ll.length + 1 : Nat) : Int)] X fun e w' => e = .returned (.tuple #[.agg u.cs.toArray, .int .i64 0]) ∧ Below X.heap.size X w') := HD
          clear hget hlen
          obtain ⟨NV, hNV⟩ : ∃ NV : Int, NV = ((ll.length + 1 : Nat) : Int) := ⟨_, rfl⟩
          rw [← hNV] at HK HD ⊢
          have HNV := hide hNV
          clear hNV
          go_wp2_with fail
          refine (num16 0 ⟨by omega, by omega⟩ _).mono ?_
          rintro e X9 ⟨rfl, h9⟩
          rw [h9]
          clear h9 X9
          go_wp2_with fail
          refine (unhide HK _ (Below.refl _ _)).mono ?_
          rintro e X4 ⟨rfl, hb4⟩
          replace LL := hide ((unhide LL).on hb4)
          have HB4 := hide hb4
          clear hb4 HK
          go_wp2_with fail
          refine (unhide HD _ (unhide HB4)).mono ?_
          rintro e X5 ⟨rfl, hb5⟩
          replace LL := hide ((unhide LL).on hb5)
          have HB5 := hide ((unhide HB4).trans (hb5.mono (unhide HB4).size))
          clear hb5 HD HB4
          go_wp2_with (first | go_skip | ((with_reducible show wpList _ _ _ _ _ _); first | ((refine alG 44 (zeroV.cs) (by rfl) rfl (fun w => by kernel_rfl) (Nat.succ_pos _) (unhide LL) ?_); intro X6 B5 hE5 L5 hb5; have hB5 := hide (Nat.le_trans (unhide LL).fr.size (Nat.le_of_eq hE5.symm)); replace LL := hide L5; have hX3B := hide (Nat.le_trans (unhide HB5).size (Nat.le_of_eq hE5.symm)); replace HB5 := hide ((unhide HB5).trans (hb5.mono (unhide HB5).size)); clear L5 hb5 hE5; simp only [Act.put, List.setIfInBounds_toArray, List.set_cons_succ, List.set_cons_zero]) | ((refine st (vs := u.cs) 0 44 (by rfl) rfl rfl rfl rfl (vcs_one _) (siz44) (unhide LL) rfl (by simp [cput, ycs_length, vcs_length, SY.cs, VV.cs]) (Or.inr (unhide hB5)) ?_); intro X7 L7 hf7 hs7; replace LL := hide L7; have HF7 := hide hf7; clear L7 hf7 hs7; simp only [Act.put, List.setIfInBounds_toArray, List.set_cons_succ, List.set_cons_zero])))
          have hI7 : (RG.mk r m sv3 (ll ++ [SY.mk u false])).Is X7 0 0 (fun _ => none) := ((unhide HI3).on (unhide HB5)).fr (unhide HF7) (fun b hb he => by
            obtain rfl : b = B5 := by simpa using he
            exact absurd (((unhide HI3)).lt _ hb) (by have := unhide hX3B; omega))
          have s0 : Hq w X7.drew [] [(B5, u.cs)] := (unhide LL).drew
          have C14 : Calls Tryd.prog 14 #[.pointer (some ⟨r, 0, none⟩)] X7.drew fun e w' => e = .returned (.int .i64 ((ll.length + 1 : Nat) : Int)) ∧ w' = X7.drew := by
            have := count14 ⟨r, m, sv3, ll ++ [SY.mk u false]⟩ X7.drew hI7.drew
            rw [List.length_append] at this
            exact this
          have hll2 : ll.length < 1000000 := by have := unhide HLL; omega
          have HG2 := unhide HG
          have hlt := unhide HLT
          have HI7 := hide hI7
          clear hI7
          have hNV := unhide HNV
          subst hNV
          refine wp_region_held_drew (P := Tryd.prog) (S := fun X => Hq w X [] [(B5, u.cs)]) (by kernel_rfl) s0 (fun hS0 => ?_)
          refine gsem 0 (some 65) (.int .i64 ((ll.length + 1 : Nat) : Int)) rfl (by kernel_rfl) (by kernel_rfl) (by kernel_rfl) (fun _ _ _ h => h) (by kernel_rfl) (by kernel_rfl) (fun _ _ => by kernel_rfl) s0 ?_
          simp only [Act.put, List.setIfInBounds_toArray, List.set_cons_succ, List.set_cons_zero]
          refine gsem 1 (some 66) (.int .i64 (ll.length : Nat)) rfl (by kernel_rfl) (by kernel_rfl) (by kernel_rfl) (fun _ _ _ h => h) (by kernel_rfl) (by kernel_rfl) (fun _ _ => by kernel_rfl) s0 ?_
          simp only [Act.put, List.setIfInBounds_toArray, List.set_cons_succ, List.set_cons_zero]
          refine gsem 2 (some 67) (.int .i64 ((ll.length + 1 : Nat) : Int)) rfl (by kernel_rfl) (by kernel_rfl) (by kernel_rfl) (fun _ _ _ h => h) (by kernel_rfl) (by kernel_rfl) (fun X hX => ex_add1 rfl rfl rfl hll2) s0 ?_
          simp only [Act.put, List.setIfInBounds_toArray, List.set_cons_succ, List.set_cons_zero]
          refine gsem 3 (some 68) (.bool false) rfl (by kernel_rfl) (by kernel_rfl) (by kernel_rfl) (fun _ _ _ h => h) (by kernel_rfl) (by kernel_rfl) (fun X hX => ex_neqI rfl rfl rfl) s0 ?_
          simp only [Act.put, List.setIfInBounds_toArray, List.set_cons_succ, List.set_cons_zero]
          refine gsem 4 (some 69) (.bool false) rfl (by kernel_rfl) (by kernel_rfl) (by kernel_rfl) (fun _ _ _ h => h) (by kernel_rfl) (by kernel_rfl) (fun _ _ => by kernel_rfl) s0 ?_
          simp only [Act.put, List.setIfInBounds_toArray, List.set_cons_succ, List.set_cons_zero]
          refine gsem 5 (some 70) (.pointer (some ⟨r, 0, none⟩)) rfl (by kernel_rfl) (by kernel_rfl) (by kernel_rfl) (fun _ _ _ h => h) (by kernel_rfl) (by kernel_rfl) (fun _ _ => by kernel_rfl) s0 ?_
          simp only [Act.put, List.setIfInBounds_toArray, List.set_cons_succ, List.set_cons_zero]
          refine gsem 7 (some 72) (.int .i64 ((ll.length + 1 : Nat) : Int)) rfl (by kernel_rfl) (by kernel_rfl) (by kernel_rfl) (fun _ _ _ h => h) (by kernel_rfl) (by kernel_rfl) (fun _ _ => by kernel_rfl) s0 ?_
          simp only [Act.put, List.setIfInBounds_toArray, List.set_cons_succ, List.set_cons_zero]
          refine wpAnyH_ready (rs := [6]) (by kernel_rfl) (by simp) (gcallR 6 (some 71) rfl (by kernel_rfl) (by kernel_rfl) (by kernel_rfl) (C14) ?_ AllReadyH.nil)
          rintro e X8 ⟨rfl, h8⟩
          refine ⟨_, rfl, h8 ▸ s0, ?_⟩
          rw [h8]
          clear h8 X8
          simp only [Act.put, List.setIfInBounds_toArray, List.set_cons_succ, List.set_cons_zero]
          refine gsem 8 (some 73) (.bool false) rfl (by kernel_rfl) (by kernel_rfl) (by kernel_rfl) (fun _ _ _ h => h) (by kernel_rfl) (by kernel_rfl) (fun X hX => ex_neqI rfl rfl rfl) s0 ?_
          simp only [Act.put, List.setIfInBounds_toArray, List.set_cons_succ, List.set_cons_zero]
          refine gsem 9 (some 74) (.bool false) rfl (by kernel_rfl) (by kernel_rfl) (by kernel_rfl) (fun _ _ _ h => h) (by kernel_rfl) (by kernel_rfl) (fun _ _ => by kernel_rfl) s0 ?_
          simp only [Act.put, List.setIfInBounds_toArray, List.set_cons_succ, List.set_cons_zero]
          refine gsem 10 (some 75) (.bool false) rfl (by kernel_rfl) (by kernel_rfl) (by kernel_rfl) (fun _ _ _ h => h) (by kernel_rfl) (by kernel_rfl) (fun _ _ => by kernel_rfl) s0 ?_
          simp only [Act.put, List.setIfInBounds_toArray, List.set_cons_succ, List.set_cons_zero]
          refine gsem 11 (some 76) (.bool false) rfl (by kernel_rfl) (by kernel_rfl) (by kernel_rfl) (fun _ _ _ h => h) (by kernel_rfl) (by kernel_rfl) (fun _ _ => by kernel_rfl) s0 ?_
          simp only [Act.put, List.setIfInBounds_toArray, List.set_cons_succ, List.set_cons_zero]
          refine gsem 12 (some 77) (.bool false) rfl (by kernel_rfl) (by kernel_rfl) (by kernel_rfl) (fun _ _ _ h => h) (by kernel_rfl) (by kernel_rfl) (fun _ _ => by kernel_rfl) s0 ?_
          simp only [Act.put, List.setIfInBounds_toArray, List.set_cons_succ, List.set_cons_zero]
          refine gsem 13 (some 78) (.bool false) rfl (by kernel_rfl) (by kernel_rfl) (by kernel_rfl) (fun _ _ _ h => h) (by kernel_rfl) (by kernel_rfl) (fun _ _ => by kernel_rfl) s0 ?_
          simp only [Act.put, List.setIfInBounds_toArray, List.set_cons_succ, List.set_cons_zero]
          refine gsem 14 (some 79) (.int .i64 0) rfl (by kernel_rfl) (by kernel_rfl) (by kernel_rfl) (fun _ _ _ h => h) (by kernel_rfl) (by kernel_rfl) (fun _ _ => by kernel_rfl) s0 ?_
          simp only [Act.put, List.setIfInBounds_toArray, List.set_cons_succ, List.set_cons_zero]
          refine wpAnyH_ready (rs := [15]) (by kernel_rfl) (by simp) (gcallR 15 (some 80) rfl (by kernel_rfl) (by kernel_rfl) (by kernel_rfl) (num16 0 ⟨by omega, by omega⟩ _) ?_ AllReadyH.nil)
          rintro e X8 ⟨rfl, h8⟩
          refine ⟨_, rfl, h8 ▸ s0, ?_⟩
          rw [h8]
          clear h8 X8
          simp only [Act.put, List.setIfInBounds_toArray, List.set_cons_succ, List.set_cons_zero]
          refine gsem 16 (some 81) (.bool false) rfl (by kernel_rfl) (by kernel_rfl) (by kernel_rfl) (fun _ _ _ h => h) (by kernel_rfl) (by kernel_rfl) (fun _ _ => by kernel_rfl) s0 ?_
          simp only [Act.put, List.setIfInBounds_toArray, List.set_cons_succ, List.set_cons_zero]
          refine gsem 17 (some 82) (.bool false) rfl (by kernel_rfl) (by kernel_rfl) (by kernel_rfl) (fun _ _ _ h => h) (by kernel_rfl) (by kernel_rfl) (fun _ _ => by kernel_rfl) s0 ?_
          simp only [Act.put, List.setIfInBounds_toArray, List.set_cons_succ, List.set_cons_zero]
          refine gsem 18 (some 83) (.bool false) rfl (by kernel_rfl) (by kernel_rfl) (by kernel_rfl) (fun _ _ _ h => h) (by kernel_rfl) (by kernel_rfl) (fun _ _ => by kernel_rfl) s0 ?_
          simp only [Act.put, List.setIfInBounds_toArray, List.set_cons_succ, List.set_cons_zero]
          refine gsem 19 (some 84) (.int .i64 0) rfl (by kernel_rfl) (by kernel_rfl) (by kernel_rfl) (fun _ _ _ h => h) (by kernel_rfl) (by kernel_rfl) (fun _ _ => by kernel_rfl) s0 ?_
          simp only [Act.put, List.setIfInBounds_toArray, List.set_cons_succ, List.set_cons_zero]
          refine wpAnyH_ready (rs := [20]) (by kernel_rfl) (by simp) (gcallR 20 (some 85) rfl (by kernel_rfl) (by kernel_rfl) (by kernel_rfl) (num16 0 ⟨by omega, by omega⟩ _) ?_ AllReadyH.nil)
          rintro e X8 ⟨rfl, h8⟩
          refine ⟨_, rfl, h8 ▸ s0, ?_⟩
          rw [h8]
          clear h8 X8
          simp only [Act.put, List.setIfInBounds_toArray, List.set_cons_succ, List.set_cons_zero]
          refine gsem 21 (some 86) (.bool false) rfl (by kernel_rfl) (by kernel_rfl) (by kernel_rfl) (fun _ _ _ h => h) (by kernel_rfl) (by kernel_rfl) (fun _ _ => by kernel_rfl) s0 ?_
          simp only [Act.put, List.setIfInBounds_toArray, List.set_cons_succ, List.set_cons_zero]
          refine gsem 22 (some 87) (.bool false) rfl (by kernel_rfl) (by kernel_rfl) (by kernel_rfl) (fun _ _ _ h => h) (by kernel_rfl) (by kernel_rfl) (fun _ _ => by kernel_rfl) s0 ?_
          simp only [Act.put, List.setIfInBounds_toArray, List.set_cons_succ, List.set_cons_zero]
          refine gsem 23 (some 88) (.bool false) rfl (by kernel_rfl) (by kernel_rfl) (by kernel_rfl) (fun _ _ _ h => h) (by kernel_rfl) (by kernel_rfl) (fun _ _ => by kernel_rfl) s0 ?_
          simp only [Act.put, List.setIfInBounds_toArray, List.set_cons_succ, List.set_cons_zero]
          refine gsem 24 (some 89) (.agg u.cs.toArray) rfl (by kernel_rfl) (by kernel_rfl) (by kernel_rfl) (fun _ _ _ h => h) (by kernel_rfl) (by kernel_rfl) (fun X hX => ex_loadN (vs := u.cs) 44 5 row44 siz44 rfl rfl (hX.get 0 rfl) rfl rfl) s0 ?_
          simp only [Act.put, List.setIfInBounds_toArray, List.set_cons_succ, List.set_cons_zero]
          refine gsem 25 (some 90) (.slice (some ⟨b, off, none⟩) l.length cap) rfl (by kernel_rfl) (by kernel_rfl) (by kernel_rfl) (fun _ _ _ h => h) (by kernel_rfl) (by kernel_rfl) (fun _ _ => by kernel_rfl) s0 ?_
          simp only [Act.put, List.setIfInBounds_toArray, List.set_cons_succ, List.set_cons_zero]
          refine gsem 26 (some 91) (.int .i64 (i : Nat)) rfl (by kernel_rfl) (by kernel_rfl) (by kernel_rfl) (fun _ _ _ h => h) (by kernel_rfl) (by kernel_rfl) (fun _ _ => by kernel_rfl) s0 ?_
          simp only [Act.put, List.setIfInBounds_toArray, List.set_cons_succ, List.set_cons_zero]
          refine gsem 27 (some 92) (.pointer (some ⟨b, off + i * 5, none⟩)) rfl (by kernel_rfl) (by kernel_rfl) (by kernel_rfl) (fun _ _ _ h => h) (by kernel_rfl) (by kernel_rfl) (fun X hX => ex_indexG 34 5 i und34 idx34 rfl rfl rfl hlt) s0 ?_
          simp only [Act.put, List.setIfInBounds_toArray, List.set_cons_succ, List.set_cons_zero]
          refine gsem 28 (some 93) (.agg u.cs.toArray) rfl (by kernel_rfl) (by kernel_rfl) (by kernel_rfl) (fun _ _ _ h => h) (by kernel_rfl) (by kernel_rfl) (fun X hX => ex_loadR 44 5 row44 siz44 rfl rfl (HG2 X hX.fr) rfl) s0 ?_
          simp only [Act.put, List.setIfInBounds_toArray, List.set_cons_succ, List.set_cons_zero]
          refine wpAnyH_ready (rs := [29]) (by kernel_rfl) (by simp) (gcallR 29 (some 94) rfl (by kernel_rfl) (by kernel_rfl) (by kernel_rfl) (eq_any u u _) ?_ AllReadyH.nil)
          rintro e X9 ⟨rfl, hb9⟩
          rw [eqB_self]
          have s9 := s0.on hb9
          refine ⟨_, rfl, s9, ?_⟩
          simp only [Act.put, List.setIfInBounds_toArray, List.set_cons_succ, List.set_cons_zero]
          refine gsem 30 (some 95) (.bool false) rfl (by kernel_rfl) (by kernel_rfl) (by kernel_rfl) (fun _ _ _ h => h) (by kernel_rfl) (by kernel_rfl) (fun _ _ => by kernel_rfl) s9 ?_
          simp only [Act.put, List.setIfInBounds_toArray, List.set_cons_succ, List.set_cons_zero]
          refine gsem 31 (some 96) (.bool false) rfl (by kernel_rfl) (by kernel_rfl) (by kernel_rfl) (fun _ _ _ h => h) (by kernel_rfl) (by kernel_rfl) (fun _ _ => by kernel_rfl) s9 ?_
          simp only [Act.put, List.setIfInBounds_toArray, List.set_cons_succ, List.set_cons_zero]
          refine wpAnyH_done (by kernel_rfl) ?_ _
          try simp only [Act.put, List.setIfInBounds_toArray, List.set_cons_succ, List.set_cons_zero]
          clear C14 s0 hll2 HG2 hlt hS0
          have FIN : Hid (NI w X9 r m (ll ++ [SY.mk u false])) := hide ⟨sv3, (unhide HI7).drew.on hb9, s9.fr, unhide HGE3⟩
          clear s9 hb9
          go_wp2
          go_roundg (l.length - (i + 1))
          case measure => have := unhide HLT; omega
          case rel => exact ⟨i + 1, ll ++ [SY.mk u false], by rw [List.length_append]; rfl, by go_num, by have := unhide HLT; omega, by rw [List.length_append]; simp; omega, by omega, FIN⟩
      · have hil : i = l.length := by omega
        subst hil
        obtain ⟨sv, hI, hF, hge⟩ := unhide HI
        have HF := hide hF
        clear hlt hI hF hge hgm hi hll HI
        go_wp2_with (first | go_skip | ((with_reducible show wpList _ _ _ _ _ _); first | ((refine rd (by rfl) (ex_lenG 34 44 Tryd.underlying34 rfl rfl) ?_); simp only [Act.put, List.setIfInBounds_toArray, List.set_cons_succ, List.set_cons_zero])))
        go_ret
        exact ⟨rfl, (unhide HF).below⟩
end Go.Proofs.YtkpfikeggleenaaDoor
