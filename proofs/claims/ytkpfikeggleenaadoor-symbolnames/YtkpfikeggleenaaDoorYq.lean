import Derived.Test.YtkpfikeggleenaaDoorYp
namespace Go.Proofs.YtkpfikeggleenaaDoor
open Go Go.Proofs Go.Maps Go.RowKit
set_option linter.unusedSimpArgs false
set_option linter.unusedVariables false
set_option maxHeartbeats 1000000
theorem lenQ {Q : RF} {W : World} {o : Oper} {a : Act} {w : World} {m : Operand} (h : Q.Is W) (hl : Q.l = wkY) (ho : o.op = .call { callee := .builtin .len, args := #[m], argTypes := #[68] }) (hm : a.eval m = Q.sv) : (execOp a.eval o).run Tryd.prog w = .ok (.value (.int .i64 (13 : Nat))) w := by
  obtain ⟨A, c, hv⟩ := h.own.form
  rw [hl] at hv
  exact ex_lenG 68 88 Tryd.underlying68 ho (hm.trans hv)
theorem wk_unknown : ∀ y ∈ wkY, y.k = false := by
  intro y hy
  unfold wkY at hy
  obtain ⟨s, -, rfl⟩ := List.mem_map.1 hy
  rfl
set_option maxRecDepth 100000 in
theorem tells10 (P : Nat) (R : RG) (Q : RF) (x y : Value) (w : World) (hP : PP w P R Q x y) : Calls Tryd.prog 10 #[pt P, .int .i64 0] w fun e w' => e = .returned (.bool true) ∧ Below w.heap.size w w' := by
  have HP := hide hP
  have LL := hide (Hq.nil w [])
  clear hP
  go_enter Tryd.func10, Tryd.ntmps10
  go_wp2_with (first | go_skip | ((with_reducible show wpList _ _ _ _ _ _); first | ((refine rd (by rfl) (ex_indexA 27 2 1 0 und27 len27 idx27 rfl rfl rfl (by decide)) ?_); simp only [Act.put, List.setIfInBounds_toArray, List.set_cons_succ, List.set_cons_zero]) | ((refine rd (by rfl) (ex_indexA 29 2 1 0 und29 len29 idx29 rfl rfl rfl (by decide)) ?_); simp only [Act.put, List.setIfInBounds_toArray, List.set_cons_succ, List.set_cons_zero]) | ((refine rd (by rfl) (ex_load1 26 Tryd.isAgg26 rfl rfl (((unhide HP).fr (unhide LL).fr).hold) rfl) ?_); simp only [Act.put, List.setIfInBounds_toArray, List.set_cons_succ, List.set_cons_zero]) | ((refine rd (by rfl) (ex_load1 28 Tryd.isAgg28 rfl rfl (((unhide HP).fr (unhide LL).fr).hold) rfl) ?_); simp only [Act.put, List.setIfInBounds_toArray, List.set_cons_succ, List.set_cons_zero])))
  refine (known20_0 R _ ((unhide HP).fr (unhide LL).fr).own).mono ?_
  rintro e X1 ⟨A1, c1, rfl, hb⟩
  replace LL := hide ((unhide LL).on hb)
  clear hb
  go_wp2_with (first | go_skip | ((with_reducible show wpList _ _ _ _ _ _); first | ((refine rd (by rfl) (ex_indexA 27 2 1 0 und27 len27 idx27 rfl rfl rfl (by decide)) ?_); simp only [Act.put, List.setIfInBounds_toArray, List.set_cons_succ, List.set_cons_zero]) | ((refine rd (by rfl) (ex_indexA 29 2 1 0 und29 len29 idx29 rfl rfl rfl (by decide)) ?_); simp only [Act.put, List.setIfInBounds_toArray, List.set_cons_succ, List.set_cons_zero]) | ((refine rd (by rfl) (ex_load1 26 Tryd.isAgg26 rfl rfl (((unhide HP).fr (unhide LL).fr).hold) rfl) ?_); simp only [Act.put, List.setIfInBounds_toArray, List.set_cons_succ, List.set_cons_zero]) | ((refine rd (by rfl) (ex_load1 28 Tryd.isAgg28 rfl rfl (((unhide HP).fr (unhide LL).fr).hold) rfl) ?_); simp only [Act.put, List.setIfInBounds_toArray, List.set_cons_succ, List.set_cons_zero])))
  refine (known20_0 R _ ((unhide HP).fr (unhide LL).fr).own).mono ?_
  rintro e X2 ⟨A2, c2, rfl, hb⟩
  replace LL := hide ((unhide LL).on hb)
  clear hb
  go_wp2_with (first | go_skip | ((with_reducible show wpList _ _ _ _ _ _); first | ((refine rd (by rfl) (ex_indexA 27 2 1 0 und27 len27 idx27 rfl rfl rfl (by decide)) ?_); simp only [Act.put, List.setIfInBounds_toArray, List.set_cons_succ, List.set_cons_zero]) | ((refine rd (by rfl) (ex_indexA 29 2 1 0 und29 len29 idx29 rfl rfl rfl (by decide)) ?_); simp only [Act.put, List.setIfInBounds_toArray, List.set_cons_succ, List.set_cons_zero]) | ((refine rd (by rfl) (ex_load1 26 Tryd.isAgg26 rfl rfl (((unhide HP).fr (unhide LL).fr).hold) rfl) ?_); simp only [Act.put, List.setIfInBounds_toArray, List.set_cons_succ, List.set_cons_zero]) | ((refine rd (by rfl) (ex_load1 28 Tryd.isAgg28 rfl rfl (((unhide HP).fr (unhide LL).fr).hold) rfl) ?_); simp only [Act.put, List.setIfInBounds_toArray, List.set_cons_succ, List.set_cons_zero])))
  refine (refKnown_0 Q _ ((unhide HP).fr (unhide LL).fr).ref (by rw [(unhide HP).lr]; exact wk_unknown) (by rw [(unhide HP).lr]; decide)).mono ?_
  rintro e X3 ⟨rfl, hb⟩
  replace LL := hide ((unhide LL).on hb)
  clear hb
  go_wp2
  have s0 : Hq w X3.drew [] [] := (unhide LL).drew
  have C14 : Calls Tryd.prog 14 #[pt R.r] X3.drew fun e w' => e = .returned (.int .i64 (13 : Nat)) ∧ w' = X3.drew := by
    have := count14 R X3.drew ((unhide HP).fr s0.fr).own
    rw [(unhide HP).lo] at this
    exact this
  refine wp_region_held_drew (P := Tryd.prog) (S := fun X => Hq w X [] []) (by kernel_rfl) s0 (fun hS0 => ?_)
  refine gsem 0 (some 30) (.pointer (some ⟨P, 0, none⟩)) rfl (by kernel_rfl) (by kernel_rfl) (by kernel_rfl) (fun _ _ _ h => h) (by kernel_rfl) (by kernel_rfl) (fun _ _ => by kernel_rfl) s0 ?_
  simp only [Act.put, List.setIfInBounds_toArray, List.set_cons_succ, List.set_cons_zero]
  refine gsem 1 (some 31) (.int .i64 0) rfl (by kernel_rfl) (by kernel_rfl) (by kernel_rfl) (fun _ _ _ h => h) (by kernel_rfl) (by kernel_rfl) (fun _ _ => by kernel_rfl) s0 ?_
  simp only [Act.put, List.setIfInBounds_toArray, List.set_cons_succ, List.set_cons_zero]
  refine gsem 2 (some 32) (.pointer (some ⟨P, 0, none⟩)) rfl (by kernel_rfl) (by kernel_rfl) (by kernel_rfl) (fun _ _ _ h => h) (by kernel_rfl) (by kernel_rfl) (fun _ _ => by kernel_rfl) s0 ?_
  simp only [Act.put, List.setIfInBounds_toArray, List.set_cons_succ, List.set_cons_zero]
  refine gsem 3 (some 33) (.pointer (some ⟨P, 0, none⟩)) rfl (by kernel_rfl) (by kernel_rfl) (by kernel_rfl) (fun _ _ _ h => h) (by kernel_rfl) (by kernel_rfl) (fun _ _ => by kernel_rfl) s0 ?_
  simp only [Act.put, List.setIfInBounds_toArray, List.set_cons_succ, List.set_cons_zero]
  refine gsem 4 (some 34) (.pointer (some ⟨P, 0, none⟩)) rfl (by kernel_rfl) (by kernel_rfl) (by kernel_rfl) (fun _ _ _ h => h) (by kernel_rfl) (by kernel_rfl) (fun X hX => ex_indexA 27 2 1 0 und27 len27 idx27 rfl rfl rfl (by decide)) s0 ?_
  simp only [Act.put, List.setIfInBounds_toArray, List.set_cons_succ, List.set_cons_zero]
  refine gsem 5 (some 35) (pt R.r) rfl (by kernel_rfl) (by kernel_rfl) (by kernel_rfl) (fun _ _ _ h => h) (by kernel_rfl) (by kernel_rfl) (fun X hX => ex_load1 26 Tryd.isAgg26 rfl rfl (((unhide HP).fr hX.fr).hold) rfl) s0 ?_
  simp only [Act.put, List.setIfInBounds_toArray, List.set_cons_succ, List.set_cons_zero]
  refine gsem 7 (some 37) (.pointer (some ⟨P, 0, none⟩)) rfl (by kernel_rfl) (by kernel_rfl) (by kernel_rfl) (fun _ _ _ h => h) (by kernel_rfl) (by kernel_rfl) (fun _ _ => by kernel_rfl) s0 ?_
  simp only [Act.put, List.setIfInBounds_toArray, List.set_cons_succ, List.set_cons_zero]
  refine gsem 8 (some 38) (.int .i64 0) rfl (by kernel_rfl) (by kernel_rfl) (by kernel_rfl) (fun _ _ _ h => h) (by kernel_rfl) (by kernel_rfl) (fun _ _ => by kernel_rfl) s0 ?_
  simp only [Act.put, List.setIfInBounds_toArray, List.set_cons_succ, List.set_cons_zero]
  refine gsem 9 (some 39) (.pointer (some ⟨P, 0, none⟩)) rfl (by kernel_rfl) (by kernel_rfl) (by kernel_rfl) (fun _ _ _ h => h) (by kernel_rfl) (by kernel_rfl) (fun _ _ => by kernel_rfl) s0 ?_
  simp only [Act.put, List.setIfInBounds_toArray, List.set_cons_succ, List.set_cons_zero]
  refine gsem 10 (some 40) (.pointer (some ⟨P, 2, none⟩)) rfl (by kernel_rfl) (by kernel_rfl) (by kernel_rfl) (fun _ _ _ h => h) (by kernel_rfl) (by kernel_rfl) (fun _ _ => by kernel_rfl) s0 ?_
  simp only [Act.put, List.setIfInBounds_toArray, List.set_cons_succ, List.set_cons_zero]
  refine gsem 11 (some 41) (.pointer (some ⟨P, 2, none⟩)) rfl (by kernel_rfl) (by kernel_rfl) (by kernel_rfl) (fun _ _ _ h => h) (by kernel_rfl) (by kernel_rfl) (fun X hX => ex_indexA 29 2 1 0 und29 len29 idx29 rfl rfl rfl (by decide)) s0 ?_
  simp only [Act.put, List.setIfInBounds_toArray, List.set_cons_succ, List.set_cons_zero]
  refine gsem 12 (some 42) (pt Q.r) rfl (by kernel_rfl) (by kernel_rfl) (by kernel_rfl) (fun _ _ _ h => h) (by kernel_rfl) (by kernel_rfl) (fun X hX => ex_load1 28 Tryd.isAgg28 rfl rfl (((unhide HP).fr hX.fr).hold) rfl) s0 ?_
  simp only [Act.put, List.setIfInBounds_toArray, List.set_cons_succ, List.set_cons_zero]
  refine gsem 13 (some 43) (pt Q.r) rfl (by kernel_rfl) (by kernel_rfl) (by kernel_rfl) (fun _ _ _ h => h) (by kernel_rfl) (by kernel_rfl) (fun _ _ => by kernel_rfl) s0 ?_
  simp only [Act.put, List.setIfInBounds_toArray, List.set_cons_succ, List.set_cons_zero]
  refine gsem 14 (some 44) (pt Q.r) rfl (by kernel_rfl) (by kernel_rfl) (by kernel_rfl) (fun _ _ _ h => h) (by kernel_rfl) (by kernel_rfl) (fun _ _ => by kernel_rfl) s0 ?_
  simp only [Act.put, List.setIfInBounds_toArray, List.set_cons_succ, List.set_cons_zero]
  refine gsem 15 (some 45) (Q.sv) rfl (by kernel_rfl) (by kernel_rfl) (by kernel_rfl) (fun _ _ _ h => h) (by kernel_rfl) (by kernel_rfl) (fun X hX => ex_load1 68 Tryd.isAgg68 rfl rfl (((unhide HP).fr hX.fr).ref.hold) rfl) s0 ?_
  simp only [Act.put, List.setIfInBounds_toArray, List.set_cons_succ, List.set_cons_zero]
  refine gsem 16 (some 46) (.int .i64 (13 : Nat)) rfl (by kernel_rfl) (by kernel_rfl) (by kernel_rfl) (fun _ _ _ h => h) (by kernel_rfl) (by kernel_rfl) (fun X hX => lenQ (unhide HP).ref (unhide HP).lr rfl rfl) s0 ?_
  simp only [Act.put, List.setIfInBounds_toArray, List.set_cons_succ, List.set_cons_zero]
  refine wpAnyH_ready (rs := [6]) (by kernel_rfl) (by simp) (gcallR 6 (some 36) rfl (by kernel_rfl) (by kernel_rfl) (by kernel_rfl) C14 ?_ AllReadyH.nil)
  rintro e X8 ⟨rfl, h8⟩
  refine ⟨_, rfl, h8 ▸ s0, ?_⟩
  rw [h8]
  clear h8 X8
  simp only [Act.put, List.setIfInBounds_toArray, List.set_cons_succ, List.set_cons_zero]
  refine gsem 17 (some 47) (.bool false) rfl (by kernel_rfl) (by kernel_rfl) (by kernel_rfl) (fun _ _ _ h => h) (by kernel_rfl) (by kernel_rfl) (fun X hX => ex_neqI rfl rfl rfl) s0 ?_
  simp only [Act.put, List.setIfInBounds_toArray, List.set_cons_succ, List.set_cons_zero]
  refine gsem 18 (some 48) (.bool false) rfl (by kernel_rfl) (by kernel_rfl) (by kernel_rfl) (fun _ _ _ h => h) (by kernel_rfl) (by kernel_rfl) (fun _ _ => by kernel_rfl) s0 ?_
  simp only [Act.put, List.setIfInBounds_toArray, List.set_cons_succ, List.set_cons_zero]
  refine gsem 19 (some 49) (.slice A1 0 c1) rfl (by kernel_rfl) (by kernel_rfl) (by kernel_rfl) (fun _ _ _ h => h) (by kernel_rfl) (by kernel_rfl) (fun _ _ => by kernel_rfl) s0 ?_
  simp only [Act.put, List.setIfInBounds_toArray, List.set_cons_succ, List.set_cons_zero]
  refine gsem 20 (some 50) (.slice none 0 0) rfl (by kernel_rfl) (by kernel_rfl) (by kernel_rfl) (fun _ _ _ h => h) (by kernel_rfl) (by kernel_rfl) (fun _ _ => by kernel_rfl) s0 ?_
  simp only [Act.put, List.setIfInBounds_toArray, List.set_cons_succ, List.set_cons_zero]
  refine wpAnyH_ready (rs := [21]) (by kernel_rfl) (by simp) (gcallR 21 (some 51) rfl (by kernel_rfl) (by kernel_rfl) (by kernel_rfl) (same28 A1 none c1 0 _) ?_ AllReadyH.nil)
  rintro e X9 ⟨rfl, hb9⟩
  have s9 := s0.on hb9
  refine ⟨_, rfl, s9, ?_⟩
  simp only [Act.put, List.setIfInBounds_toArray, List.set_cons_succ, List.set_cons_zero]
  refine gsem 22 (some 52) (.bool false) rfl (by kernel_rfl) (by kernel_rfl) (by kernel_rfl) (fun _ _ _ h => h) (by kernel_rfl) (by kernel_rfl) (fun _ _ => by kernel_rfl) s9 ?_
  simp only [Act.put, List.setIfInBounds_toArray, List.set_cons_succ, List.set_cons_zero]
  refine gsem 23 (some 53) (.bool false) rfl (by kernel_rfl) (by kernel_rfl) (by kernel_rfl) (fun _ _ _ h => h) (by kernel_rfl) (by kernel_rfl) (fun _ _ => by kernel_rfl) s9 ?_
  simp only [Act.put, List.setIfInBounds_toArray, List.set_cons_succ, List.set_cons_zero]
  refine wpAnyH_done (by kernel_rfl) ?_ _
  try simp only [Act.put, List.setIfInBounds_toArray, List.set_cons_succ, List.set_cons_zero]
  have L9 := hide s9
  clear s9 s0 hS0 C14 hb9 LL
  go_wp2_with fail
  go_loopg [8] 1 (fun gm s8 wr => s8 = .int .i64 0 ∧ wr = X9)
  case atStart => exact ⟨rfl, rfl⟩
  case round =>
    obtain ⟨rfl, hwr⟩ := hrel
    subst hwr
    have LL := L9
    go_wp2_with (first | go_skip | ((with_reducible show wpList _ _ _ _ _ _); first | ((refine rd (by rfl) (ex_lenG 33 9 Tryd.underlying33 rfl rfl) ?_); simp only [Act.put, List.setIfInBounds_toArray, List.set_cons_succ, List.set_cons_zero])))
    refine (same28 _ _ _ _ _).mono ?_
    rintro e X11 ⟨rfl, hb⟩
    replace LL := hide ((unhide LL).on hb)
    clear hb
    go_wp2_with (first | go_skip | ((with_reducible show wpList _ _ _ _ _ _); first | ((refine rd (by rfl) (ex_indexA 27 2 1 0 und27 len27 idx27 rfl rfl rfl (by decide)) ?_); simp only [Act.put, List.setIfInBounds_toArray, List.set_cons_succ, List.set_cons_zero]) | ((refine rd (by rfl) (ex_indexA 29 2 1 0 und29 len29 idx29 rfl rfl rfl (by decide)) ?_); simp only [Act.put, List.setIfInBounds_toArray, List.set_cons_succ, List.set_cons_zero]) | ((refine rd (by rfl) (ex_load1 26 Tryd.isAgg26 rfl rfl (((unhide HP).fr (unhide LL).fr).hold) rfl) ?_); simp only [Act.put, List.setIfInBounds_toArray, List.set_cons_succ, List.set_cons_zero]) | ((refine rd (by rfl) (ex_load1 28 Tryd.isAgg28 rfl rfl (((unhide HP).fr (unhide LL).fr).hold) rfl) ?_); simp only [Act.put, List.setIfInBounds_toArray, List.set_cons_succ, List.set_cons_zero])))
    refine (known20_0 R _ ((unhide HP).fr (unhide LL).fr).own).mono ?_
    rintro e X12 ⟨A3, c3, rfl, hb⟩
    replace LL := hide ((unhide LL).on hb)
    clear hb
    go_wp2_with fail
    refine (same28 _ _ _ _ _).mono ?_
    rintro e X13 ⟨rfl, hb⟩
    replace LL := hide ((unhide LL).on hb)
    clear hb
    go_wp2
    go_ret
    exact ⟨rfl, (unhide LL).fr.below⟩
set_option maxRecDepth 100000 in
theorem law_names (i : Int) (w : World) (hT : Tabs w) (hN : Nm w) : Calls Tryd.prog 3 #[.int .i64 i] w fun e w' => e = .returned (.bool true) ∧ Below w.heap.size w w' := by
  obtain ⟨s0, b0, hw6, hw7⟩ := wk_both i
  have HW := hide hw6
  have HV := hide hw7
  have HT := hide hT
  have HN := hide hN
  have LL := hide (Hq.nil w [])
  clear hw6 hw7 hT hN
  go_enter Tryd.func3, Tryd.ntmps3
  go_wp2_with fail
  refine (unhide HW _ (unhide HT)).mono ?_
  rintro e X1 ⟨rfl, hb⟩
  replace LL := hide ((unhide LL).on hb)
  clear hb
  go_wp2_with fail
  refine (unhide HV _ ((unhide HN).fr (unhide LL).fr (by simp))).mono ?_
  rintro e X9 ⟨rfl, h9⟩
  rw [h9]
  clear h9 X9
  go_wp2_with fail
  refine (newPair8 _ ((unhide HT).fr (unhide LL).fr (by simp)) ((unhide HN).fr (unhide LL).fr (by simp))).mono ?_
  rintro e X2 ⟨P, R, Q, x, y, rfl, hP, hb⟩
  replace LL := hide ((unhide LL).on hb)
  have HP := hide hP
  clear hP hb HW HV
  go_wp2_with (first | go_skip | ((with_reducible show wpList _ _ _ _ _ _); first | ((refine rd (by rfl) (ex_indexA 27 2 1 0 und27 len27 idx27 rfl rfl rfl (by decide)) ?_); simp only [Act.put, List.setIfInBounds_toArray, List.set_cons_succ, List.set_cons_zero]) | ((refine rd (by rfl) (ex_load1 26 Tryd.isAgg26 rfl rfl ((unhide HP).hold) rfl) ?_); simp only [Act.put, List.setIfInBounds_toArray, List.set_cons_succ, List.set_cons_zero])))
  refine (asks9 P R Q x y i _ (unhide HP)).mono ?_
  rintro e X3 ⟨rfl, hb⟩
  replace LL := hide ((unhide LL).on hb)
  replace HP := hide ((unhide HP).on hb)
  clear hb
  go_wp2_with fail
  refine (tells10 P R Q x y _ (unhide HP)).mono ?_
  rintro e X4 ⟨rfl, hb⟩
  replace LL := hide ((unhide LL).on hb)
  replace HP := hide ((unhide HP).on hb)
  clear hb
  go_wp2_with fail
  go_loopg [8] 15 (fun gm s8 wr => ∃ k : Nat, s8 = .int .i64 k ∧ k ≤ 15 ∧ 15 - k ≤ gm ∧ Hid (PP wr P R Q x y ∧ Fr w wr []))
  case atStart => exact ⟨0, rfl, by omega, by omega, hide ⟨unhide HP, (unhide LL).fr⟩⟩
  case round =>
    clear HP LL
    obtain ⟨k, rfl, hk, hgm, HI⟩ := hrel
    by_cases hlt : k < 15
    · have hlz : decide ((k : Int) ≤ 14) = true := decide_eq_true (by omega)
      have hw1 : IntKind.i64.wrap ((k : Int) + 1) = (k : Int) + 1 := by rw [IntKind.wrap_i64]; omega
      have HLT := hide hlt
      clear hlt
      obtain ⟨s1, b1, hw6, hw7⟩ := wk_both (k : Int)
      have HW := hide hw6
      have HV := hide hw7
      clear hw6 hw7
      go_wp2_with fail
      refine (unhide HW _ ((unhide HT).fr (unhide HI).2 (by simp))).mono ?_
      rintro e X1 ⟨rfl, hb⟩
      replace HI := hide (And.intro ((unhide HI).1.on hb) ((unhide HI).2.on hb))
      clear hb
      go_wp2_with fail
      refine (unhide HV _ ((unhide HN).fr (unhide HI).2 (by simp))).mono ?_
      rintro e X9 ⟨rfl, h9⟩
      rw [h9]
      clear h9 X9
      go_wp2_with fail
      refine (asks9 P R Q x y _ _ (unhide HI).1).mono ?_
      rintro e X3 ⟨rfl, hb⟩
      replace HI := hide (And.intro ((unhide HI).1.on hb) ((unhide HI).2.on hb))
      clear hb
      go_wp2
      go_roundg (15 - (k + 1))
      case measure => have := unhide HLT; omega
      case rel => exact ⟨k + 1, by go_num, by have := unhide HLT; omega, by omega, HI⟩
    · have hk15 : k = 15 := by omega
      subst hk15
      clear hlt
      go_wp2
      go_ret
      exact ⟨rfl, (unhide HI).2.below⟩
end Go.Proofs.YtkpfikeggleenaaDoor
