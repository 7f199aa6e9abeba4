/-
  Proved here: for any descriptor and any list of descriptors, whatever their fields hold, the law DescFrozen (promise 5.6: a property that is frozen stays the same by every definition that is taken) returns true and leaves its arguments as they were.
  Conditions: the two tables of the library's UTF-8 package read as their texts lay them (the card ties them).
-/
import Derived.Test.YtedgaaaloigpdaaDoorCards
import Derived.Test.YtedgaaaloigpdaaDoorTie
import Derived.Test.YtedgaaaloigpdaaDoorEv
import Derived.Test.YtedgaaaloigpdaaDoorDv
import Derived.WalkKit
import Derived.ProofKit
import Derived.OpenShut
import Derived.ShutString
import Derived.ChangeOld
import Derived.Below
import Derived.Deep.DeepHandedRow
import Derived.Deep.DeepWitnessRowRef
import Derived.Lib.LaidIn
import Derived.Lib.LaidU8
import Derived.PinnedBridge
import Derived.Test.YtedgaaaloigpdaaDoorEu
import Derived.Deep.Slices
import Derived.SizedLaws
namespace Go.Proofs.YtedgaaaloigpdaaDoor.descFrozen
open Go.ChangeShapes Go.WideShapes Go.ChangeAt Go.RowKit
open Go.ChangeMaps (open_string shut_string)

theorem own : ownKnob Tryd.prog.godebug = none := by kernel_rfl
theorem laidOut : laidOutB Tryd.prog = true := by kernel_rfl
theorem extra : U8Extra Tryd.prog Tryd.lays260_ren := ⟨by kernel_rfl, by kernel_rfl, by kernel_rfl, by kernel_rfl, by kernel_rfl, by kernel_rfl, by kernel_rfl⟩
theorem accept_eq : (Rows.laid_unicode_utf8_acceptRanges : DataW Unit) = Lib.acceptData := by kernel_rfl
theorem plainLaid : (Rows.descFrozenRow.laid.all fun x => x.2.handleName?.isNone) = true := by kernel_rfl

/-- What the row's list gives: the two tables lie. -/
theorem tabs {W : World} (h : laidMetH Tryd.prog Rows.descFrozenRow.laid W) : Lib.Utf8Tabs 1 2 W := by
  rw [MakeChecks.laidMetH_plain _ _ _ plainLaid] at h
  have h1 : Lib.VarReads Tryd.prog W "unicode/utf8.acceptRanges" Rows.laid_unicode_utf8_acceptRanges := Lib.laidMet.reads h (.head _)
  have h2 : Lib.VarReads Tryd.prog W "unicode/utf8.first" Go.Pinned.utf8First := Lib.laidMet.reads h (.tail _ (.head _))
  rw [accept_eq] at h1
  rw [Pinned.utf8First_eq] at h2
  exact utf8Tabs_of_reads Tryd.lays260 extra h2 h1

/-- The witness: a world, the two tables holding what their initialisers lay. -/
def laidOver (w0 : World) : World :=
  let put (h : Array Obj) (g : Nat) (cs : Array Value) : Array Obj := h.modify g fun
    | .cells _ t frozen => .cells cs t frozen
    | o => o
  let h1 := put w0.heap 1 (Lib.firstTab.map fun z => Value.int .u8 z).toArray
  let h2 := put h1 2 ((List.range 16).flatMap fun i => [Value.int .u8 (Lib.accLo i), Value.int .u8 (Lib.accHi i)]).toArray
  { w0 with heap := h2 }
theorem laid_met (os : Os) (args : Array Value) : laidMet Tryd.prog Rows.descFrozenRow.laid ((laidOver (World.holding Tryd.prog os ⟨#[], #[], []⟩)).forCall (fun _ _ => 0) ⟨#[], args, []⟩).memory :=
  (LaidIn.of_run (l := [("unicode/utf8.acceptRanges", Rows.laid_unicode_utf8_acceptRanges), ("unicode/utf8.first", Rows.laid_unicode_utf8_first)]) [2, 1] 8 (by kernel_rfl) (by kernel_rfl) (by kernel_rfl) (by kernel_rfl)).met
def arg0 : Value := zeroD.agg
theorem witness_row (os : Os) {H : Type} (enc : TypeId × Value → H) :
    (OpenSpec.ofChange Rows.descFrozenSpec).preRow enc Tryd.prog Tryd.f7 Rows.descFrozenRow.domain false Rows.descFrozenRow.laid ((laidOver (World.holding Tryd.prog os ⟨#[], #[], []⟩)).forCall (fun _ _ => 0) ⟨#[], #[arg0, .slice none 0 0], []⟩).memory #[arg0, .slice none 0 0] := by
  have hw : (DataW.whole enc Tryd.prog ((laidOver (World.holding Tryd.prog os ⟨#[], #[], []⟩)).forCall (fun _ _ => 0) ⟨#[], #[arg0, .slice none 0 0], []⟩).memory Tryd.f7.params.toList Rows.descFrozenSpec.vars false #[arg0, .slice none 0 0].toList 8).map (fun x => (x.1, x.2.1)) =
      some ([.agg [.agg [.lit (.int .i64 0), .lit (.bool false), .lit (.float .f64 0), .lit (.string []), .lit (.int .i64 0)], .agg [.lit (.int .i64 0), .lit (.bool false), .lit (.float .f64 0), .lit (.string []), .lit (.int .i64 0)], .agg [.lit (.int .i64 0), .lit (.bool false), .lit (.float .f64 0), .lit (.string []), .lit (.int .i64 0)], .lit (.int .i64 0), .lit (.int .i64 0), .lit (.int .i64 0)], .nil], []) := by kernel_rfl
  obtain ⟨⟨x1, x2, x3⟩, hx, hx1⟩ := Option.map_eq_some_iff.1 hw
  simp only [Prod.mk.injEq] at hx1
  obtain ⟨rfl, rfl⟩ := hx1
  exact OpenSpec.preRow_of_cond 8 hx (by kernel_rfl) (fun k hk => by cases hk) (by kernel_rfl) (laid_met os _)

theorem add_plain (b o i : Nat) : (Addr.add ⟨b, o, none⟩ i) = ⟨b, o + i, none⟩ := by
  unfold Addr.add
  by_cases h : i = 0
  · subst h; simp
  · simp [h]
theorem cell_spot' {w : World} {b o : Nat} {sp : Option Nat} {v : Value} (h : w.cell? ⟨b, o, sp⟩ = some v) : sp = none ∧ b < w.heap.size := by
  constructor
  · cases sp with
    | none => rfl
    | some s =>
      simp only [World.cell?] at h
      split at h <;> simp at h
  · rcases Nat.lt_or_ge b w.heap.size with h' | h'
    · exact h'
    · simp [World.cell?, Array.getElem?_eq_none h'] at h
/-- A list of descriptors, opened. -/
theorem open_row {H : Type} {enc : TypeId × Value → H} {W : World} {v : Value} {d : DataW H} {p : List MemPlace} {A : Option Addr} {n cap : Nat} (hv : v = .slice A n cap) (h : DataW.Trod enc Tryd.prog W 0 (fun _ => true) true 48 v d p) :
    ∃ l : List DD, n = l.length ∧ ReadsD W (.slice A l.length cap) l ∧ (∀ u ∈ l, FD u) ∧ (d = .nil ∧ l = [] ∨ ∃ es sp : List (DataW H), d = .slice es sp ∧ es.length = l.length) := by
  subst hv
  obtain ⟨fuel, hf⟩ := h
  rcases Go.Deep.open_slice Tryd.underlying48 hf with ⟨hcs, hx⟩ | ⟨a, len, cap', m, k, D, Pl, hcs, _, hl, hm, hme, hx, hel⟩
  · simp [Value.cells] at hcs
    obtain ⟨rfl, rfl, rfl⟩ := hcs
    exact ⟨[], rfl, .inl ⟨none, 0, rfl, rfl⟩, (fun u hu => by cases hu), .inl ⟨congrArg Prod.fst hx, rfl⟩⟩
  · simp [Value.cells] at hcs
    obtain ⟨rfl, rfl, rfl⟩ := hcs
    have hme' : n ≤ m := by
      simp at hme
      omega
    have each : ∀ i, i < n → ∃ u : DD, FD u ∧ W.cells? 0 (a.add (i * 18)) 18 = some u.cs := by
      intro i hi
      obtain ⟨cs', h1, h2⟩ := hel i (by omega)
      obtain ⟨u, rfl, hx, _⟩ := cells_desc h2
      rw [cellsOf27] at h1
      exact ⟨u, hx, h1⟩
    have mk : ∀ k, k ≤ n → ∃ l : List DD, l.length = k ∧ ∀ i (hi : i < l.length), FD l[i] ∧ W.cells? 0 (a.add (i * 18)) 18 = some l[i].cs := by
      intro k
      induction k with
      | zero => exact fun _ => ⟨[], rfl, fun i hi => absurd hi (Nat.not_lt_zero i)⟩
      | succ k ih =>
        intro hk
        obtain ⟨l, hl, hl2⟩ := ih (by omega)
        obtain ⟨u, hu, hu2⟩ := each k (by omega)
        refine ⟨l ++ [u], by simp [hl], fun i hi => ?_⟩
        by_cases e : i = k
        · subst e
          have : (l ++ [u])[i] = u := by simp [← hl]
          rw [this]
          exact ⟨hu, hu2⟩
        · have hi' : i < l.length := by
            simp at hi
            omega
          have : (l ++ [u])[i] = l[i] := List.getElem_append_left hi'
          rw [this]
          exact hl2 i hi'
    obtain ⟨l, hll, hlc⟩ := mk n (Nat.le_refl _)
    refine ⟨l, hll.symm, ?_, ?_, .inr ⟨_, _, congrArg Prod.fst hx, by simp [hll]⟩⟩
    · rcases Nat.eq_zero_or_pos n with h0 | h0
      · exact .inl ⟨some a, _, by rw [hll, h0], List.length_eq_zero_iff.1 (by omega)⟩
      · obtain ⟨b, off, sp⟩ := a
        have h00 := (World.cells?_some (hlc 0 (by omega)).2).2.2 0 (by omega)
        have e0 : (Addr.add (Addr.add ⟨b, off, sp⟩ (0 * 18)) 0) = ⟨b, off, sp⟩ := by simp [Addr.add]
        rw [e0] at h00
        obtain ⟨rfl, hbl⟩ := cell_spot' (h00.trans rfl)
        refine .inr ⟨b, off, _, rfl, hbl, fun j hj t u hu => ?_⟩
        have ht : t < 18 := by
          have := (List.getElem?_eq_some_iff.1 hu).1
          rwa [cs_length] at this
        have h1 := (World.cells?_some (hlc j hj).2).2.2 t (by omega)
        rw [add_plain, add_plain] at h1
        rw [h1]
        exact hu
    · intro u hu
      obtain ⟨i, hi, rfl⟩ := List.mem_iff_getElem.1 hu
      exact (hlc i hi).1

set_option maxRecDepth 100000 in
set_option maxHeartbeats 2000000 in
theorem lifted (os : Os) (started : os.Started) (H : Type) (enc : TypeId × Value → H) (F : Stop.Interp) :
    ReturnsInHanded {} Tryd.checked os 7 .any ((OpenSpec.ofChange Rows.descFrozenSpec).preRow enc Tryd.prog Tryd.f7 Rows.descFrozenRow.domain false Rows.descFrozenRow.laid) (((OpenSpec.ofChange Rows.descFrozenSpec).at F).post enc Tryd.prog Tryd.f7 false true false false) := by
  refine returnsInHanded_of_row (C := Tryd.checked) (s := OpenSpec.ofChange Rows.descFrozenSpec) own started (by kernel_rfl) Tryd.func7
    (witness_row_atRef (enc := enc) (C := Tryd.checked) false (laidOver (World.holding Tryd.prog os ⟨#[], #[], []⟩)) #[arg0, .slice none 0 0] rfl (by kernel_rfl) (by kernel_rfl) (by kernel_rfl) (witness_row os enc)) ?_
  intro W base args ds gs before hval0 hW _ hcond hsz hL _ _
  have hval : ∀ (j : Nat) t v, Tryd.f7.params[j]? = some t → args[j]? = some v → Value.okWide Tryd.prog W .any base t v := hval0
  have hW' := hW
  obtain ⟨p, q, hA0, hV, rfl, hfz, hnd⟩ := hW
  have hA : DataW.TrodAll enc Tryd.prog W 0 (fun _ => true) true Tryd.f7.params.toList args.toList ds p := hA0
  rw [Tryd.params7] at hA hval
  obtain ⟨v0, v1, d0, d1, p0, p1, rfl, rfl, rfl, h0, h1⟩ := trodAll_two hA
  obtain ⟨rfl, rfl⟩ := trodVars_none hV
  have lt0 : ∀ x ∈ p0, x.block < W.heap.size := by obtain ⟨m, hm⟩ := h0; exact DataW.trod_lt m _ _ _ hm
  have lt1 : ∀ x ∈ p1, x.block < W.heap.size := by obtain ⟨m, hm⟩ := h1; exact DataW.trod_lt m _ _ _ hm
  obtain ⟨a, rfl, ha⟩ := open_desc (hval 0 27 v0 rfl rfl) h0
  obtain ⟨A, n, cap, rfl⟩ := okWide_slice Tryd.underlying48 (hval 1 48 v1 rfl rfl)
  obtain ⟨l, rfl, hr, hx, hd⟩ := open_row rfl h1
  have hn : l.length ≤ 2932031007402 := by
    rcases hd with ⟨_, rfl⟩ | ⟨es, sp, rfl, hes⟩
    · exact Nat.zero_le _
    · have := sized_slice (j := 1) (t := 48) (e := 27) hsz (by kernel_rfl) rfl Tryd.underlying48
      have hb : Tryd.checked.prog.bytesOf 27 = 168 := by kernel_rfl
      rw [hb, hes] at this
      unfold reachBytes at this
      omega
  clear hA0 hval0
  refine (law_frozen _ a ha l hx W (tabs hL) hr hn).mono fun e W' ⟨he, bel⟩ => ?_
  subst he
  exact ⟨_, rfl, _, _, _, [], _, [], hW', trodAll_mk1 (shut_bool Tryd.underlying4 _), (trodAll_cons_mk (Below.trod laidOut (by kernel_rfl) (of_decide_eq_true (by kernel_rfl)) h0 bel lt0) (trodAll_cons_mk (Below.trod laidOut (by kernel_rfl) (of_decide_eq_true (by kernel_rfl)) h1 bel lt1) trodAll_mk0)), rfl, bel.frame _, fun h => by cases h⟩

theorem said : Rows.DescFrozenSaid :=
  OpenClaim.holds_of_cond 7 Tryd.f7 rfl rfl rfl rfl rfl rfl rfl ⟨rfl, rfl, rfl, rfl, rfl⟩ rfl rfl rfl rfl rfl (by kernel_rfl) Tryd.func7 (by kernel_rfl)
    (of_decide_eq_true (by kernel_rfl)) (by unfold Func.isWrapper; rw [if_neg (of_decide_eq_false (by kernel_rfl))]; exact ⟨rfl, rfl⟩)
    (fun os started H enc _ F => by rw [OpenClaim.pre_eq_preRow]; exact lifted os started H enc F)

theorem plain (f : FuncId) (fn : Func) (hf : Tryd.pinned.checked.prog.funcNamed "cameo/cameolaw05.DescFrozen" = some f) (hfn : Tryd.pinned.checked.prog.funcs[f]? = some fn) :
    true = Tryd.pinned.checked.prog.looks [] ∧ ∀ (j : Nat) t, fn.params[j]? = some t → Tryd.pinned.checked.prog.wantsStandIn t = false := by
  obtain rfl : f = 7 := Option.some.inj ((show Tryd.prog.funcNamed "cameo/cameolaw05.DescFrozen" = some 7 by kernel_rfl).symm.trans hf) |>.symm
  obtain rfl : fn = Tryd.f7 := (Option.some.inj (Tryd.func7.symm.trans hfn)).symm
  refine ⟨by kernel_rfl, fun j t ht => ?_⟩
  rw [Tryd.params7] at ht
  have hm := Array.mem_of_getElem? ht
  simp at hm
  rcases hm with rfl | rfl
  · exact (show Tryd.prog.wantsStandIn 27 = false by kernel_rfl)
  · exact (show Tryd.prog.wantsStandIn 48 = false by kernel_rfl)

end Go.Proofs.YtedgaaaloigpdaaDoor.descFrozen
namespace Go.Proofs.YtedgaaaloigpdaaDoor
/-- THE CARD. -/
theorem descFrozen_card : Rows.DescFrozenCardSaid :=
  Claim7.holds_tied_plain_at .later [] _ _ _ _ descFrozen.said (fun _ h => by cases h) (by kernel_rfl) (fun _ h => by cases h) descFrozen_row_tie rfl ⟨rfl, rfl⟩ (by kernel_rfl) rfl descFrozen.plain (by kernel_rfl)
#print axioms descFrozen_card
end Go.Proofs.YtedgaaaloigpdaaDoor
