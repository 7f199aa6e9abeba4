/-
  Proved: for any float, handed in as its bits, Integer, Int32, Uint32, Int16, Uint16, Int8, Uint8, Clamp8, Length and Index of package number answer as the document does (NumberWholes returns true). Conditions: none.
-/
import Derived.Test.YtclahchmdcgdhaaRows
import Derived.Test.YtclahchmdcgdhaaGo
import Derived.WalkKit
import Derived.ProofKit
import Derived.OpenShut
namespace Go.Proofs.Ytclahchmdcgdhaa
namespace numberWholes
open FM Go.ChangeShapes Go.WideShapes Go.ChangeAt Go.RowKit
set_option linter.unusedVariables false      -- a walk need not use every 'w<i>' (that an integer argument fits its kind)

theorem own : ownKnob Try.prog.godebug = none := by kernel_rfl

/-! ### STEP 1: THE WALK: the Go text returns true. 'Grown w w'': the world has at most new blocks (Derived/RowKit3.lean). Part the cases AHEAD of 'go_enter' where a test parts the walk; take each callee by a contract of your own. -/
theorem clV_le (x : Nat) : clV x ≤ 255 := by
  unfold clV
  split
  · omega
  · split
    · omega
    · next h => exact evQ_le _ _ _ (by rw [← c255]; exact vl_le.2 (by omega))

theorem num_any (i : Int) (w : World) : Calls Try.prog 23 #[.int .i64 i] w fun e w' => e = .returned (.int .i64 i) ∧ w' = w := by
  go_enter Try.func23, Try.ntmps23
  go_wp2
  go_ret
  exact ⟨rfl, rfl⟩

set_option maxHeartbeats 4000000 in
set_option maxRecDepth 100000 in
theorem walk (a0 : Int) (w0 : (Lit.int .u64 a0).wf = true) (w : World) :
    Calls Try.prog 3 #[.int .u64 a0] w fun e w' => e = .returned (.bool true) ∧ Below w.heap.size w w' := by
  have b0 := bounds_u64 w0
  obtain ⟨x, rfl⟩ : ∃ x : Nat, a0 = (x : Int) := ⟨a0.toNat, by omega⟩
  have hx : x < 2 ^ 64 := by omega
  have HM := fun w => modulo_any x hx w
  have HI1 := fun w => index_any x hx w
  have HI2 := fun w => refIndex_any x hx w
  have HN1 := fun w => integer_any x hx w
  have HN2 := fun w => refInteger_any x hx w
  have HA := fun w => int32_any x hx w
  have HB := fun w => uint32_any x hx w
  have HC := fun w => int16_any x hx w
  have HD := fun w => uint16_any x hx w
  have HE := fun w => int8_any x hx w
  have HF := fun w => uint8_any x hx w
  have HG := fun w => clamp8_any x w
  have HH := fun w => refclamp_any x hx w
  have HL1 := fun w => length_any x hx w
  have HL2 := fun w => refLength_any x hx w
  have hM := MV_lt x
  have hcl := clV_le x
  clear b0 w0
  have eC : IntKind.i16.wrap ((MV x % 2 ^ 32 : Nat) : Int) = IntKind.i16.wrap (IntKind.u16.wrap (MV x : Int)) := by
    simp [IntKind.wrap, IntKind.bits, IntKind.signed]
  have eD : IntKind.u16.wrap ((MV x % 2 ^ 32 : Nat) : Int) = IntKind.u16.wrap (MV x : Int) := by
    simp [IntKind.wrap, IntKind.bits, IntKind.signed]
  have eE : IntKind.i8.wrap ((MV x % 2 ^ 32 : Nat) : Int) = IntKind.i8.wrap (IntKind.u8.wrap (MV x : Int)) := by
    simp [IntKind.wrap, IntKind.bits, IntKind.signed]
  have eF : IntKind.u8.wrap ((MV x % 2 ^ 32 : Nat) : Int) = IntKind.u8.wrap (MV x : Int) := by
    simp [IntKind.wrap, IntKind.bits, IntKind.signed]
  rw [eC] at HC
  rw [eD] at HD
  rw [eE] at HE
  rw [eF] at HF
  clear eC eD eE eF
  generalize MV x = M at *
  generalize ixV x = iv at *
  generalize ixE x = ie at *
  generalize lnV x = ln at *
  generalize clV x = cl at *
  go_enter Try.func3, Try.ntmps3
  go_wp2_with fail
  refine (float_any x _).mono ?_
  rintro e w' ⟨rfl, rfl⟩
  go_wp2_with fail
  refine (HM _).mono ?_
  rintro e w' ⟨rfl, rfl⟩
  go_wp2_with fail
  refine (HI1 _).mono ?_
  rintro e w' ⟨rfl, rfl⟩
  go_wp2_with fail
  refine (HI2 _).mono ?_
  rintro e w' ⟨rfl, rfl⟩
  go_wp2_with fail
  refine (HN1 _).mono ?_
  rintro e w' ⟨z1, rfl, hz1, rfl⟩
  go_wp2_with fail
  refine (HN2 _).mono ?_
  rintro e w' ⟨z2, rfl, hz2, rfl⟩
  obtain rfl := intP_uniq hz1 hz2
  have hz64 := intP_lt hz1
  have hself : sameV z1 z1 = true := by unfold sameV; simp
  go_wp2_with fail
  refine (alike_any z1 z1 hz64 hz64 _).mono ?_
  rintro e w' ⟨rfl, rfl⟩
  rw [hself]
  go_wp2_with fail
  refine (HA _).mono ?_
  rintro e w' ⟨rfl, rfl⟩
  go_wp2_with fail
  refine (HB _).mono ?_
  rintro e w' ⟨rfl, rfl⟩
  go_wp2_with fail
  refine (HC _).mono ?_
  rintro e w' ⟨rfl, rfl⟩
  go_wp2_with fail
  refine (HD _).mono ?_
  rintro e w' ⟨rfl, rfl⟩
  go_wp2_with fail
  refine (HE _).mono ?_
  rintro e w' ⟨rfl, rfl⟩
  go_wp2_with fail
  refine (HF _).mono ?_
  rintro e w' ⟨rfl, rfl⟩
  go_wp2_with fail
  refine (HG _).mono ?_
  rintro e w' ⟨rfl, rfl⟩
  go_wp2_with fail
  refine (HH _).mono ?_
  rintro e w2 ⟨rfl, hb2⟩
  have HB2 : Hid _ := ⟨hb2⟩
  clear hb2
  go_wp2_with fail
  refine (HL1 _).mono ?_
  rintro e w3 ⟨rfl, rfl⟩
  go_wp2_with fail
  refine (HL2 _).mono ?_
  rintro e w3 ⟨rfl, rfl⟩
  go_wp2_with fail
  refine (num_any _ _).mono ?_
  rintro e w3 ⟨rfl, rfl⟩
  go_wp2
  go_ret
  exact ⟨rfl, HB2.it⟩

/-! ### THE ROW's STEP: WRITTEN OUT: LEAVE IT -/
set_option maxRecDepth 100000 in
theorem lifted (os : Os) (started : os.Started) (H : Type) (enc : TypeId × Value → H) :
    ReturnsInHanded {} Try.checked os 3 .any (Rows.numberWholesSpec.pre6 enc Try.prog Try.f3 Rows.numberWholesRow.domain false) (Rows.numberWholesSpec.post enc Try.prog Try.f3 false true false false) := by
  refine returnsInHanded_of_change (C := Try.checked) own started (by kernel_rfl) Try.func3
    (ChangeSpec.witness6 (enc := enc) (C := Try.checked) false ⟨#[], #[.int .u64 0], []⟩ 8 (by kernel_rfl) (by kernel_rfl) (by kernel_rfl) (by kernel_rfl)) ?_
  intro W base args ds gs before hval0 hW hcnd _
  have hval : ∀ (j : Nat) t v, Try.f3.params[j]? = some t → args[j]? = some v → Value.okWide Try.prog W .any base t v := hval0
  have hW' := hW
  obtain ⟨p, q, hA0, hV, rfl, hfz, hnd⟩ := hW
  have hA : DataW.TrodAll enc Try.prog W 0 (fun _ => true) true Try.f3.params.toList args.toList ds p := hA0
  rw [Try.params3] at hA hval
  obtain ⟨v0, vs0, d0, ds0, p0, q0, hargs, rfl, rfl, h0, r0⟩ := trodAll_cons hA
  obtain ⟨rfl, rfl, rfl⟩ := trodAll_nil r0
  obtain rfl : args = #[v0] := by cases args; simp_all
  obtain ⟨rfl, rfl⟩ := trodVars_none hV
  obtain ⟨a0, rfl, rfl, rfl, w0⟩ := open_int Try.underlying22 (hval 0 22 v0 rfl rfl) h0
  clear hA0 hval0
  simp only [List.append_nil] at hW'
  refine (walk a0 w0 W).mono fun e W' ⟨he, hg⟩ => ?_
  subst he
  exact ⟨_, rfl, _, _, _, [], _, [], hW', trodAll_mk1 (shut_bool Try.underlying4 _), (trodAll_cons_mk (shut_int Try.underlying22 w0) trodAll_mk0), rfl, hg.frame _, fun h => by cases h⟩

theorem over : Rows.numberWholesRow.holds Try.pinned (OpenSpec.ofChange Rows.numberWholesSpec) :=
  OpenClaim.holds_of_wide 3 Try.f3 rfl rfl rfl rfl rfl rfl rfl ⟨rfl, rfl, rfl, rfl, rfl⟩ rfl rfl rfl rfl rfl (by kernel_rfl) Try.func3 (by kernel_rfl)
    (of_decide_eq_true (by kernel_rfl)) (by unfold Func.isWrapper; first | (rw [if_pos (by decide +kernel)]; kernel_rfl) | (rw [if_neg (by decide +kernel)]; exact ⟨rfl, rfl⟩))
    (fun os started H enc _ => lifted os started H enc)

/-- ████ THE STATEMENT ████ -/
theorem proved : Rows.NumberWholesSaid :=
  over
#print axioms proved
end numberWholes
theorem numberWholes_holds : Rows.NumberWholesSaid := numberWholes.proved
end Go.Proofs.Ytclahchmdcgdhaa
