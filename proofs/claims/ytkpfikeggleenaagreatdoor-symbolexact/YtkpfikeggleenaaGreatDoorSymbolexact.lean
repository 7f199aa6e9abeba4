/-
  Proved here: for any list of acts, whatever their fields hold, the law SymbolExact (promises 8.1 to 8.6: every answer of every call on two registries, one of which becomes the other's clone now and then, held against the document's) returns true and leaves its argument as it was.
  Conditions: the program's and the document's tables of names and the two tables of the library's UTF-8 package read as their texts lay them (the card ties them).
-/
import Derived.Test.YtkpfikeggleenaaGreatDoorCards
import Derived.Test.YtkpfikeggleenaaGreatDoorTie
import Derived.Test.YtkpfikeggleenaaGreatDoorYl
import Derived.Test.YtkpfikeggleenaaGreatDoorUf
import Derived.Test.YtkpfikeggleenaaGreatDoorVo
import Derived.WalkKit
import Derived.ProofKit
import Derived.OpenShut
import Derived.ShutString
import Derived.ChangeOld
import Derived.Below
import Derived.Deep.DeepHandedRow
import Derived.Deep.DeepWitnessRowRef
import Derived.Lib.LaidIn
import Derived.Lib.LaidU8
import Derived.PinnedBridge
import Derived.Deep.Slices
import Derived.SizedLaws
namespace Go.Proofs.YtkpfikeggleenaaGreatDoor.symbolExact
open Go.ChangeShapes Go.WideShapes Go.ChangeAt Go.RowKit
open Go.ChangeMaps (open_string shut_string)

theorem own : ownKnob Tryz.prog.godebug = none := by kernel_rfl
theorem laidOut : laidOutB Tryz.prog = true := by kernel_rfl
theorem extra : U8Extra Tryz.prog Tryz.lays260_ren := ⟨by kernel_rfl, by kernel_rfl, by kernel_rfl, by kernel_rfl, by kernel_rfl, by kernel_rfl, by kernel_rfl⟩
theorem accept_eq : (Rows.laid_unicode_utf8_acceptRanges : DataW Unit) = Lib.acceptData := by kernel_rfl
theorem plainLaid : (Rows.symbolExactRow.laid.all fun x => x.2.handleName?.isNone) = true := by kernel_rfl

theorem wk_eq : (Rows.laid_cameo_symbol_wellKnown : DataW Unit) = .agg (wkL.map fun s => .lit (.string s.data.toList)) := by kernel_rfl
theorem nm_eq : (Rows.laid_cameo_cameoref08_Names : DataW Unit) = .agg (nmL.map fun s => .lit (.string s.data.toList)) := by kernel_rfl
/-- What the row's list gives: the tables lie. -/
theorem tabs {W : World} (h : laidMetH Tryz.prog Rows.symbolExactRow.laid W) : Tabs W ∧ Nm W := by
  rw [MakeChecks.laidMetH_plain _ _ _ plainLaid] at h
  have h1 : Lib.VarReads Tryz.prog W "unicode/utf8.acceptRanges" Rows.laid_unicode_utf8_acceptRanges := Lib.laidMet.reads h (.head _)
  have h3 : Lib.VarReads Tryz.prog W "cameo/cameoref08.Names" Rows.laid_cameo_cameoref08_Names := Lib.laidMet.reads h (.tail _ (.head _))
  have h0 : Lib.VarReads Tryz.prog W "cameo/symbol.wellKnown" Rows.laid_cameo_symbol_wellKnown := Lib.laidMet.reads h (.tail _ (.tail _ (.head _)))
  have h2 : Lib.VarReads Tryz.prog W "unicode/utf8.first" Go.Pinned.utf8First := Lib.laidMet.reads h (.tail _ (.tail _ (.tail _ (.head _))))
  rw [accept_eq] at h1
  rw [wk_eq] at h0
  rw [nm_eq] at h3
  rw [Pinned.utf8First_eq] at h2
  have hu : Lib.Utf8Tabs 3 4 W := utf8Tabs_of_reads Tryz.lays260 extra h2 h1
  exact ⟨⟨hu, strs_of_reads (by kernel_rfl) (by kernel_rfl) h0 rfl, tabs_size hu⟩, strs_of_reads (by kernel_rfl) (by kernel_rfl) h3 rfl, tabs_size hu⟩

/-- The witness: a world, the two tables holding what their initialisers lay. -/
def laidOver (w0 : World) : World :=
  let put (h : Array Obj) (g : Nat) (cs : Array Value) : Array Obj := h.modify g fun
    | .cells _ t frozen => .cells cs t frozen
    | o => o
  let h9 := put w0.heap 1 nmCs.toArray
  let h0 := put h9 0 wkCs.toArray
  let h1 := put h0 3 (Lib.firstTab.map fun z => Value.int .u8 z).toArray
  let h2 := put h1 4 ((List.range 16).flatMap fun i => [Value.int .u8 (Lib.accLo i), Value.int .u8 (Lib.accHi i)]).toArray
  { w0 with heap := h2 }
theorem laid_met (os : Os) (args : Array Value) : laidMet Tryz.prog Rows.symbolExactRow.laid ((laidOver (World.holding Tryz.prog os ⟨#[], #[], []⟩)).forCall (fun _ _ => 0) ⟨#[], args, []⟩).memory :=
  (LaidIn.of_run (l := [("unicode/utf8.acceptRanges", Rows.laid_unicode_utf8_acceptRanges), ("cameo/cameoref08.Names", Rows.laid_cameo_cameoref08_Names), ("cameo/symbol.wellKnown", Rows.laid_cameo_symbol_wellKnown), ("unicode/utf8.first", Rows.laid_unicode_utf8_first)]) [4, 1, 0, 3] 8 (by kernel_rfl) (by kernel_rfl) (by kernel_rfl) (by kernel_rfl)).met
theorem witness_row (os : Os) {H : Type} (enc : TypeId × Value → H) :
    (OpenSpec.ofChange Rows.symbolExactSpec).preRow enc Tryz.prog Tryz.f3 Rows.symbolExactRow.domain false Rows.symbolExactRow.laid ((laidOver (World.holding Tryz.prog os ⟨#[], #[], []⟩)).forCall (fun _ _ => 0) ⟨#[], #[.slice none 0 0], []⟩).memory #[.slice none 0 0] := by
  have hw : (DataW.whole enc Tryz.prog ((laidOver (World.holding Tryz.prog os ⟨#[], #[], []⟩)).forCall (fun _ _ => 0) ⟨#[], #[.slice none 0 0], []⟩).memory Tryz.f3.params.toList Rows.symbolExactSpec.vars false (#[.slice none 0 0] : Array Value).toList 8).map (fun x => (x.1, x.2.1)) =
      some ([.nil], []) := by kernel_rfl
  obtain ⟨⟨x1, x2, x3⟩, hx, hx1⟩ := Option.map_eq_some_iff.1 hw
  simp only [Prod.mk.injEq] at hx1
  obtain ⟨rfl, rfl⟩ := hx1
  exact OpenSpec.preRow_of_cond 8 hx (by kernel_rfl) (fun k hk => by cases hk) (by kernel_rfl) (laid_met os _)

set_option maxRecDepth 100000 in
set_option maxHeartbeats 2000000 in
theorem lifted (os : Os) (started : os.Started) (H : Type) (enc : TypeId × Value → H) (F : Stop.Interp) :
    ReturnsInHanded {} Tryz.checked os 3 .any ((OpenSpec.ofChange Rows.symbolExactSpec).preRow enc Tryz.prog Tryz.f3 Rows.symbolExactRow.domain false Rows.symbolExactRow.laid) (((OpenSpec.ofChange Rows.symbolExactSpec).at F).post enc Tryz.prog Tryz.f3 false true false false) := by
  refine returnsInHanded_of_row (C := Tryz.checked) (s := OpenSpec.ofChange Rows.symbolExactSpec) own started (by kernel_rfl) Tryz.func3
    (witness_row_atRef (enc := enc) (C := Tryz.checked) false (laidOver (World.holding Tryz.prog os ⟨#[], #[], []⟩)) #[.slice none 0 0] rfl (by kernel_rfl) (by kernel_rfl) (by kernel_rfl) (witness_row os enc)) ?_
  intro W base args ds gs before hval0 hW _ hcond hsz hL _ _
  have hval : ∀ (j : Nat) t v, Tryz.f3.params[j]? = some t → args[j]? = some v → Value.okWide Tryz.prog W .any base t v := hval0
  have hsize := hsz
  have hW' := hW
  obtain ⟨p, q, hA0, hV, rfl, hfz, hnd⟩ := hW
  have hA : DataW.TrodAll enc Tryz.prog W 0 (fun _ => true) true Tryz.f3.params.toList args.toList ds p := hA0
  rw [Tryz.params3] at hA hval
  obtain ⟨v0, vs0, d0, ds0, p0, q0, hargs, rfl, rfl, h0, r0⟩ := trodAll_cons hA
  obtain ⟨rfl, rfl, rfl⟩ := trodAll_nil r0
  obtain rfl : args = #[v0] := by cases args; simp_all
  obtain ⟨rfl, rfl⟩ := trodVars_none hV
  obtain ⟨A, n, cap, rfl⟩ := okWide_slice Tryz.underlying22 (hval 0 22 v0 rfl rfl)
  have lt0 : ∀ x ∈ p0, x.block < W.heap.size := by obtain ⟨m, hm⟩ := h0; exact DataW.trod_lt m _ _ _ hm
  obtain ⟨l, rfl, hr⟩ := open_rowA rfl h0
  clear hA0 hval0
  refine (law_exact A cap l W (tabs hL).1 (tabs hL).2 hr).mono fun e W' ⟨he, bel⟩ => ?_
  subst he
  exact ⟨_, rfl, _, _, _, [], _, [], hW', trodAll_mk1 (shut_bool Tryz.underlying4 _), (trodAll_cons_mk (Below.trod laidOut (by kernel_rfl) (of_decide_eq_true (by kernel_rfl)) h0 bel lt0) trodAll_mk0), rfl, bel.frame _, fun h => by cases h⟩

theorem said : Rows.SymbolExactSaid :=
  OpenClaim.holds_of_cond 3 Tryz.f3 rfl rfl rfl rfl rfl rfl rfl ⟨rfl, rfl, rfl, rfl, rfl⟩ rfl rfl rfl rfl rfl (by kernel_rfl) Tryz.func3 (by kernel_rfl)
    (of_decide_eq_true (by kernel_rfl)) (by unfold Func.isWrapper; rw [if_neg (of_decide_eq_false (by kernel_rfl))]; exact ⟨rfl, rfl⟩)
    (fun os started H enc _ F => by rw [OpenClaim.pre_eq_preRow]; exact lifted os started H enc F)

theorem plain (f : FuncId) (fn : Func) (hf : Tryz.pinned.checked.prog.funcNamed "cameo/cameolaw08.SymbolExact" = some f) (hfn : Tryz.pinned.checked.prog.funcs[f]? = some fn) :
    true = Tryz.pinned.checked.prog.looks [] ∧ ∀ (j : Nat) t, fn.params[j]? = some t → Tryz.pinned.checked.prog.wantsStandIn t = false := by
  obtain rfl : f = 3 := Option.some.inj ((show Tryz.prog.funcNamed "cameo/cameolaw08.SymbolExact" = some 3 by kernel_rfl).symm.trans hf) |>.symm
  obtain rfl : fn = Tryz.f3 := (Option.some.inj (Tryz.func3.symm.trans hfn)).symm
  refine ⟨by kernel_rfl, fun j t ht => ?_⟩
  rw [Tryz.params3] at ht
  have hm := Array.mem_of_getElem? ht
  simp at hm
  subst hm
  exact (show Tryz.prog.wantsStandIn 22 = false by kernel_rfl)

end Go.Proofs.YtkpfikeggleenaaGreatDoor.symbolExact
namespace Go.Proofs.YtkpfikeggleenaaGreatDoor
/-- THE CARD. -/
theorem symbolExact_card : Rows.SymbolExactCardSaid :=
  Claim7.holds_tied_plain_at .later [] _ _ _ _ symbolExact.said (fun _ h => by cases h) (by kernel_rfl) (fun _ h => by cases h) symbolExact_row_tie rfl ⟨rfl, rfl⟩ (by kernel_rfl) rfl symbolExact.plain (by kernel_rfl)
#print axioms symbolExact_card
end Go.Proofs.YtkpfikeggleenaaGreatDoor
