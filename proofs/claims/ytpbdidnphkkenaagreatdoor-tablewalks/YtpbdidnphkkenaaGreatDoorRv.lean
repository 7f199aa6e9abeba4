import Derived.Test.YtpbdidnphkkenaaGreatDoorRu
import Derived.ProofKit
import Derived.OpenShut
import Derived.Deep.Slices
import Derived.Lib.SmallJoins
set_option linter.all false
namespace Go.Proofs.YtpbdidnphkkenaaGreatDoor
set_option maxHeartbeats 1000000
section
open Go Go.Proofs Go.Maps Go.RowKit
def WalkAt (dep : Int) (B E f : Nat) : Prop := ∀ (S : PS) (kd : Int) (k : KK) (d : DD) (nn : Int) (inner : Value) (w : World) (base N : Nat), S.Is w base N → Pot S N + 2 * B < 800000 → -1000000 + (2 * E + 1 : Int) ≤ min S.left 0 → (∀ X, Below base w X → Lib.Utf8Tabs 2 3 X ∧ TabP X) → RdA (f + 1) w base inner →
    Calls Tryz.prog 26 #[.pointer (some ⟨S.P, 0, none⟩), actV kd k d nn inner, .int .i64 dep] w (PlayP S w base (Pot S N + 2 * B) (min S.left 0 - (2 * E + 1)))
set_option maxRecDepth 100000 in
theorem play9_deep (dep : Int) (hd : 3 < dep) (S : PS) (k : KK) (d : DD) (nn : Int) (inner : Value) (w : World) (base N : Nat) (hS : S.Is w base N) : Calls Tryz.prog 8 #[.pointer (some ⟨S.P, 0, none⟩), actV 9 k d nn inner, .int .i64 dep] w fun e w' => e = .returned (.bool true) ∧ Below w.heap.size w w' := by
  have HP := hide hS.bs.hold
  have HS := hide hS
  clear hS
  unfold actV
  have hgt : dep > 3 := hd
  go_enter Tryz.func8, Tryz.ntmps8
  go_wp2_with (first | go_skip | ((with_reducible show wpList _ _ _ _ _ _); first | ((with_reducible show wpList _ _ _ (Oper.mk _ (Op.box _ _) _ _ _ _ :: _) _ _); (refine bx 41 (actCs 9 k d nn inner) (by rfl) rfl rfl rfl (Nat.succ_pos _) (Hq.nil w []) ?_); intro w1 B4 hB4 L1 hb1; replace HP := hide ((unhide HS).bs.on hb1).hold; replace HS := hide ((unhide HS).on hb1); have LL := hide L1; have HB1 := hide hb1; have HB4 := hide hB4; clear hB4 L1 hb1; simp only [Act.put, n1, n2, n3]) | ((with_reducible show wpList _ _ _ (Oper.mk _ (Op.load _ _) _ _ _ _ :: _) _ _); (refine rd (by rfl) (ex_load1 26 Tryz.isAgg26 rfl rfl (unhide HP) rfl) ?_); simp only [Act.put, n1, n2, n3]) | ((with_reducible show wpList _ _ _ (Oper.mk _ (Op.load _ _) _ _ _ _ :: _) _ _); (refine rd (by rfl) (ex_load1 28 Tryz.isAgg28 rfl rfl (unhide HP) rfl) ?_); simp only [Act.put, n1, n2, n3]) | ((with_reducible show wpList _ _ _ (Oper.mk _ (Op.load _ _) _ _ _ _ :: _) _ _); (refine rd (by rfl) (ex_load1 3 Tryz.isAgg3 rfl rfl ((unhide LL).get 0 rfl) rfl) ?_); simp only [Act.put, n1, n2, n3]) | ((with_reducible show wpList _ _ _ (Oper.mk _ (Op.load _ _) _ _ _ _ :: _) _ _); (refine rd (by rfl) (ex_loadN (vs := actCs 9 k d nn inner) 41 23 row41 siz41 rfl rfl ((unhide LL).get 0 rfl) rfl rfl) ?_); simp only [Act.put, n1, n2, n3])))
  go_ret
  exact ⟨rfl, unhide HB1⟩
set_option maxRecDepth 100000 in
theorem play9 (dep : Int) (hd : dep ≤ 3) (B E f : Nat) (HW0 : WalkAt dep B E f) (S : PS) (k : KK) (d : DD) (nn : Int) (inner : Value) (w : World) (base N : Nat) (hS : S.Is w base N) (hM : Pot S N + 4 * B < 800000) (hlo : -1000000 + (4 * E + 2 : Int) ≤ min S.left 0) (hU : ∀ X, Below base w X → Lib.Utf8Tabs 2 3 X ∧ TabP X) (hR : RdA (f + 1) w base inner) :
    Calls Tryz.prog 8 #[.pointer (some ⟨S.P, 0, none⟩), actV 9 k d nn inner, .int .i64 dep] w (PlayP S w base (Pot S N + 4 * B) (min S.left 0 - (4 * E + 2))) := by
  have HW := hide HW0
  have HU := hide hU
  have HR := hide hR
  have HM := hide (And.intro hM hlo)
  have HP := hide hS.bs.hold
  have HLT := hide (fun b hb => hS.bs.flat (b := b) hb)
  have HSZ := hide hS.bs.size
  have HS := hide hS
  clear HW0 hU hR hM hlo hS
  have hgt : ¬ dep > 3 := by omega
  unfold actV
  go_enter Tryz.func8, Tryz.ntmps8
  go_wp2_with (first | go_skip | ((with_reducible show wpList _ _ _ _ _ _); first | ((with_reducible show wpList _ _ _ (Oper.mk _ (Op.box _ _) _ _ _ _ :: _) _ _); (refine bx 41 (actCs 9 k d nn inner) (by rfl) rfl rfl rfl (Nat.succ_pos _) (Hq.nil w S.parts.flatten) ?_); intro w1 B4 hB4 L1 hb1; replace HP := hide ((unhide HS).bs.on hb1).hold; replace HS := hide ((unhide HS).on hb1); have LL := hide L1; have HB1 := hide hb1; have HB4 := hide hB4; clear hB4 L1 hb1; simp only [Act.put, n1, n2, n3]) | ((with_reducible show wpList _ _ _ (Oper.mk _ (Op.load _ _) _ _ _ _ :: _) _ _); (refine rd (by rfl) (ex_load1 26 Tryz.isAgg26 rfl rfl (unhide HP) rfl) ?_); simp only [Act.put, n1, n2, n3]) | ((with_reducible show wpList _ _ _ (Oper.mk _ (Op.load _ _) _ _ _ _ :: _) _ _); (refine rd (by rfl) (ex_load1 28 Tryz.isAgg28 rfl rfl (unhide HP) rfl) ?_); simp only [Act.put, n1, n2, n3]) | ((with_reducible show wpList _ _ _ (Oper.mk _ (Op.load _ _) _ _ _ _ :: _) _ _); (refine rd (by rfl) (ex_load1 3 Tryz.isAgg3 rfl rfl ((unhide LL).get 0 rfl) rfl) ?_); simp only [Act.put, n1, n2, n3]) | ((with_reducible show wpList _ _ _ (Oper.mk _ (Op.load _ _) _ _ _ _ :: _) _ _); (refine rd (by rfl) (ex_loadN (vs := actCs 9 k d nn inner) 41 23 row41 siz41 rfl rfl ((unhide LL).get 0 rfl) rfl rfl) ?_); simp only [Act.put, n1, n2, n3])))
  have HBB := hide (Below.mono (unhide HB1) (unhide HSZ))
  refine ((unhide HW) S 9 k d nn inner _ base N (unhide HS) (by have := (unhide HM).1; omega) (by have := (unhide HM).2; omega) (fun X hX => (unhide HU) X ((unhide HBB).trans hX)) (RdA.on (unhide HBB) _ _ (unhide HR))).mono ?_
  rintro _ X1 ⟨rfl, S1, N1, hS1, hW1, hP1, hl1⟩
  have hb1 := hW1.below (unhide HS).bs (unhide HS).bs.size
  have HBB2 := hide ((unhide HBB).trans hb1)
  have LL2 : Hid (Hq w X1 S.parts.flatten [(B4, actCs 9 k d nn inner)]) := hide ((unhide LL).step hW1.fr (fun b hb => .inl hb) (fun q hq hm => by
    obtain rfl : q = (B4, actCs 9 k d nn inner) := by simpa using hq
    have h1 := (unhide HLT) _ hm
    have h2 := unhide HB4
    have h3 : B4 < w.heap.size := h1
    omega))
  have H1 := hide (And.intro hS1 (And.intro ((Wk.refl S (unhide HB1)).trans hW1) (And.intro hP1 hl1)))
  clear LL HP hS1 hW1 hP1 hl1 hb1
  have LL := LL2
  clear LL2
  go_wp2_with (first | go_skip | ((with_reducible show wpList _ _ _ _ _ _); first | ((with_reducible show wpList _ _ _ (Oper.mk _ (Op.load _ _) _ _ _ _ :: _) _ _); (refine rd (by rfl) (ex_loadN (vs := actCs 9 k d nn inner) 41 23 row41 siz41 rfl rfl ((unhide LL).get 0 rfl) rfl rfl) ?_); simp only [Act.put, n1, n2, n3])))
  have HW2 := hide ((unhide HW) S1 9 k d nn inner X1 base N1 (unhide H1).1 (by have h1 := (unhide HM).1; have h2 := (unhide H1).2.2.1; omega) (by have h1 := (unhide HM).2; have h2 := (unhide H1).2.2.2; omega) (fun X hX => (unhide HU) X ((unhide HBB2).trans hX)) (RdA.on (unhide HBB2) _ _ (unhide HR)))
  rw [(unhide H1).2.1.P] at HW2
  refine (unhide HW2).mono ?_
  rintro _ X2 ⟨rfl, S2, N2, hS2, hW2, hP2, hl2⟩
  have H2 : Hid (∃ S' N', S'.Is X2 base N' ∧ Wk S S' w X2 ∧ Pot S' N' ≤ Pot S N + 4 * B ∧ min S.left 0 - (4 * E + 2) ≤ S'.left) := hide ⟨S2, N2, hS2, (unhide H1).2.1.trans hW2, by have h2 := (unhide H1).2.2.1; omega, by have h2 := (unhide H1).2.2.2; omega⟩
  clear hS2 hW2 hP2 hl2 HW2 H1 LL
  go_wp2
  go_ret
  exact ⟨rfl, unhide H2⟩
theorem walkAt (dep : Int) (hd : 0 ≤ dep ∧ dep ≤ 3) (B E f : Nat) (hB : 2 * B ≤ 128) (HPL : PlayAt (dep + 1) B E f) : WalkAt dep B E f := fun S kd k d nn inner w base N hS hM hlo hU hR => walk26 dep hd B E f hB HPL S kd k d nn inner w base N hS hM hlo hU hR
theorem play_plain (S : PS) (kd : Int) (k : KK) (d : DD) (nn : Int) (inner : Value) (w : World) (base N : Nat) (dep : Int) (hS : S.Is w base N) (hM : Pot S N + 1 < 800000) (hU : ∀ X, Below base w X → Lib.Utf8Tabs 2 3 X ∧ TabP X) (hk : OkK k) (hC : kd = 10 → S.C = []) (h9 : kd ≠ 9) (B E : Nat) (hB : 1 ≤ B) :
    Calls Tryz.prog 8 #[.pointer (some ⟨S.P, 0, none⟩), actV kd k d nn inner, .int .i64 dep] w (PlayP S w base (Pot S N + B) (min S.left 0 - E)) := by
  refine (play_any S ⟨kd, k, d, nn, inner⟩ w base N hS (by unfold Pot at hM; omega) (fun X hX => (hU X hX).1) (fun X hX => (hU X hX).2) hk h9 hC dep).mono ?_
  rintro e w' ⟨rfl, S', hS', hW'⟩
  refine ⟨rfl, S', N + 1, hS', hW'.wk, ?_, ?_⟩
  · have := hW'.left
    unfold Pot
    rw [this]
    omega
  · rw [hW'.left]
    omega
theorem playAt_deep : PlayAt 4 1 0 0 := by
  intro S kd k d nn inner w base N hS hM hlo hU hk hR hC
  by_cases h9 : kd = 9
  · subst h9
    refine (play9_deep 4 (by decide) S k d nn inner w base N hS).mono ?_
    rintro e w' ⟨rfl, hb⟩
    exact ⟨rfl, S, N, hS.on hb, Wk.refl S hb, by omega, by omega⟩
  · exact play_plain S kd k d nn inner w base N 4 hS (by omega) hU hk hC h9 1 0 (Nat.le_refl _)
theorem playAt_step (dep : Int) (hd : 0 ≤ dep ∧ dep ≤ 3) (B E f : Nat) (h1 : 1 ≤ B) (hB : 2 * B ≤ 128) (HPL : PlayAt (dep + 1) B E f) : PlayAt dep (4 * B) (4 * E + 2) (f + 1) := by
  intro S kd k d nn inner w base N hS hM hlo hU hk hR hC
  by_cases h9 : kd = 9
  · subst h9
    refine (play9 dep hd.2 B E f (walkAt dep hd B E f hB HPL) S k d nn inner w base N hS (by omega) (by omega) hU hR).mono ?_
    rintro e w' ⟨h1, S', N', h2, h3, h4, h5⟩
    exact ⟨h1, S', N', h2, h3, by omega, by omega⟩
  · exact play_plain S kd k d nn inner w base N dep hS (by omega) hU hk hC h9 (4 * B) (4 * E + 2) (by omega)
theorem playAt0 : PlayAt 0 256 170 4 :=
  playAt_step 0 (by decide) 64 42 3 (by decide) (by decide) (playAt_step 1 (by decide) 16 10 2 (by decide) (by decide) (playAt_step 2 (by decide) 4 2 1 (by decide) (by decide) (playAt_step 3 (by decide) 1 0 0 (by decide) (by decide) playAt_deep)))
end
end Go.Proofs.YtpbdidnphkkenaaGreatDoor
namespace Go.Proofs.YtpbdidnphkkenaaGreatDoor
section
open Go Go.Proofs Go.RowKit Go.WideShapes Go.ChangeShapes
theorem cellsOf36 : Tryz.prog.cellsOf 36 = 5 := by kernel_rfl
theorem cellsOf3 : Tryz.prog.cellsOf 3 = 1 := by kernel_rfl
theorem cellsOf4 : Tryz.prog.cellsOf 4 = 1 := by kernel_rfl
theorem cellsOf34 : Tryz.prog.cellsOf 34 = 1 := by kernel_rfl
theorem cellsOf9 : Tryz.prog.cellsOf 9 = 1 := by kernel_rfl
section
variable {H : Type} {enc : TypeId × Value → H} {P : Program} {W : World} {base : Nat} {sp : Nat → Bool} {held : Bool} {m : Nat} {c : Value} {x : DataW H × List MemPlace} {t : TypeId}
theorem cell_bool (hu : P.underlying t = some .bool) (h : DataW.trod enc P W base sp held m t [c] = some x) : ∃ b, c = .bool b ∧ x = (.lit (.bool b), []) := by
  cases m with
  | zero => simp [DataW.trod] at h
  | succ m =>
    unfold DataW.trod at h
    rw [hu] at h
    split at h <;> simp_all
theorem wf64 {b : Nat} (h : (Lit.float .f64 b).wf = true) : b < 2 ^ 64 := by
  unfold Lit.wf at h
  exact of_decide_eq_true h
theorem cell_float (hu : P.underlying t = some (.float .f64)) (h : DataW.trod enc P W base sp held m t [c] = some x) : ∃ b, c = .float .f64 b ∧ b < 2 ^ 64 ∧ x = (.lit (.float .f64 b), []) := by
  cases m with
  | zero => simp [DataW.trod] at h
  | succ m =>
    unfold DataW.trod at h
    rw [hu] at h
    split at h <;> simp_all
    rename_i e
    subst e
    exact wf64 h.1.2
theorem cell_string (hu : P.underlying t = some .string) (h : DataW.trod enc P W base sp held m t [c] = some x) : ∃ s, c = .string s ∧ s.size ≤ maxLen ∧ x = (.lit (.string s.data.toList), []) := by
  cases m with
  | zero => simp [DataW.trod] at h
  | succ m =>
    unfold DataW.trod at h
    rw [hu] at h
    split at h <;> simp_all
theorem cell_int (hu : P.underlying t = some (.int .i64)) (h : DataW.trod enc P W base sp held m t [c] = some x) : ∃ n, c = .int .i64 n ∧ (Lit.int .i64 n).wf = true ∧ x = (.lit (.int .i64 n), []) := by
  cases m with
  | zero => simp [DataW.trod] at h
  | succ m =>
    unfold DataW.trod at h
    rw [hu] at h
    split at h <;> simp_all
/-- Five cells that read as a value. -/
theorem cells_value' {f0 f1 f2 f3 f4 : Field} {cs : List Value} (hs : P.underlying t = some (.struct #[f0, f1, f2, f3, f4])) (hC : P.cellsOf t = 5)
    (o0 : f0.offset = 0) (o1 : f1.offset = 1) (o2 : f2.offset = 2) (o3 : f3.offset = 3) (o4 : f4.offset = 4)
    (u0 : P.underlying f0.type = some (.int .i64)) (u1 : P.underlying f1.type = some .bool) (u2 : P.underlying f2.type = some (.float .f64)) (u3 : P.underlying f3.type = some .string) (u4 : P.underlying f4.type = some (.int .i64))
    (s0 : P.cellsOf f0.type = 1) (s1 : P.cellsOf f1.type = 1) (s2 : P.cellsOf f2.type = 1) (s3 : P.cellsOf f3.type = 1) (s4 : P.cellsOf f4.type = 1)
    (h : DataW.trod enc P W base sp held m t cs = some x) :
    ∃ u : VV, cs = [.int .i64 u.k, .bool u.b, .float .f64 u.x, .string u.s, .int .i64 u.i] ∧ u.x < 2 ^ 64 ∧ u.s.size ≤ maxLen ∧ (Lit.int .i64 u.k).wf = true ∧ (Lit.int .i64 u.i).wf = true := by
  obtain ⟨xs, n, _, rfl, hl, hlen, hf⟩ := DataW.trod_struct hs h
  rw [hC] at hl
  match cs, hl with
  | [c0, c1, c2, c3, c4], _ =>
    have h0 := hf 0 _ rfl
    have h1 := hf 1 _ rfl
    have h2 := hf 2 _ rfl
    have h3 := hf 3 _ rfl
    have h4 := hf 4 _ rfl
    simp [s0, s1, s2, s3, s4, o0, o1, o2, o3, o4] at h0 h1 h2 h3 h4 hlen
    have g : ∀ j, j < 5 → ∃ y, xs[j]? = some y := fun j hj => ⟨_, List.getElem?_eq_getElem (by omega)⟩
    obtain ⟨y0, e0⟩ := g 0 (by omega)
    obtain ⟨y1, e1⟩ := g 1 (by omega)
    obtain ⟨y2, e2⟩ := g 2 (by omega)
    obtain ⟨y3, e3⟩ := g 3 (by omega)
    obtain ⟨y4, e4⟩ := g 4 (by omega)
    rw [e0] at h0
    rw [e1] at h1
    rw [e2] at h2
    rw [e3] at h3
    rw [e4] at h4
    obtain ⟨k, rfl, wk, -⟩ := cell_int u0 h0
    obtain ⟨b, rfl, -⟩ := cell_bool u1 h1
    obtain ⟨f, rfl, wf, -⟩ := cell_float u2 h2
    obtain ⟨s, rfl, ws, -⟩ := cell_string u3 h3
    obtain ⟨i, rfl, wi, -⟩ := cell_int u4 h4
    exact ⟨⟨k, b, f, s, i⟩, rfl, wf, ws, wk, wi⟩
end
set_option maxRecDepth 100000 in
theorem cells_value {H : Type} {enc : TypeId × Value → H} {W : World} {base : Nat} {sp : Nat → Bool} {held : Bool} {m : Nat} {x : DataW H × List MemPlace} {cs : List Value} (h : DataW.trod enc Tryz.prog W base sp held m 36 cs = some x) :
    ∃ u : VV, cs = [.int .i64 u.k, .bool u.b, .float .f64 u.x, .string u.s, .int .i64 u.i] ∧ u.x < 2 ^ 64 ∧ u.s.size ≤ maxLen ∧ (Lit.int .i64 u.k).wf = true ∧ (Lit.int .i64 u.i).wf = true :=
  cells_value' Tryz.underlying36 cellsOf36 rfl rfl rfl rfl rfl Tryz.underlying3 Tryz.underlying4 Tryz.underlying34 Tryz.underlying9 Tryz.underlying3 cellsOf3 cellsOf4 cellsOf34 cellsOf9 cellsOf3 h
theorem cellsOf39 : Tryz.prog.cellsOf 39 = 18 := by kernel_rfl
theorem cellsOf37 : Tryz.prog.cellsOf 37 = 1 := by kernel_rfl
section
variable {H : Type} {enc : TypeId × Value → H} {P : Program} {W : World} {base : Nat} {sp : Nat → Bool} {held : Bool} {m : Nat} {t : TypeId} {x : DataW H × List MemPlace}
set_option maxRecDepth 100000 in
theorem cells_desc' {f0 f1 f2 f3 f4 f5 : Field} {cs : List Value} (hs : Tryz.prog.underlying t = some (.struct #[f0, f1, f2, f3, f4, f5])) (hC : Tryz.prog.cellsOf t = 18)
    (o0 : f0.offset = 0) (o1 : f1.offset = 5) (o2 : f2.offset = 10) (o3 : f3.offset = 15) (o4 : f4.offset = 16) (o5 : f5.offset = 17)
    (t0 : f0.type = 36) (t1 : f1.type = 36) (t2 : f2.type = 36) (t3 : f3.type = 37) (t4 : f4.type = 37) (t5 : f5.type = 37)
    (h : DataW.trod enc Tryz.prog W base sp held m t cs = some x) : ∃ d : DD, cs = d.cs := by
  obtain ⟨xs, n, _, rfl, hl, hlen, hf⟩ := DataW.trod_struct hs h
  rw [hC] at hl
  match cs, hl with
  | [c0, c1, c2, c3, c4, c5, c6, c7, c8, c9, c10, c11, c12, c13, c14, c15, c16, c17], _ =>
    have h0 := hf 0 _ rfl
    have h1 := hf 1 _ rfl
    have h2 := hf 2 _ rfl
    have h3 := hf 3 _ rfl
    have h4 := hf 4 _ rfl
    have h5 := hf 5 _ rfl
    simp [t0, t1, t2, t3, t4, t5, o0, o1, o2, o3, o4, o5, cellsOf36, cellsOf37] at h0 h1 h2 h3 h4 h5 hlen
    have g : ∀ j, j < 6 → ∃ y, xs[j]? = some y := fun j hj => ⟨_, List.getElem?_eq_getElem (by omega)⟩
    obtain ⟨y0, e0⟩ := g 0 (by omega)
    obtain ⟨y1, e1⟩ := g 1 (by omega)
    obtain ⟨y2, e2⟩ := g 2 (by omega)
    obtain ⟨y3, e3⟩ := g 3 (by omega)
    obtain ⟨y4, e4⟩ := g 4 (by omega)
    obtain ⟨y5, e5⟩ := g 5 (by omega)
    rw [e0] at h0
    rw [e1] at h1
    rw [e2] at h2
    rw [e3] at h3
    rw [e4] at h4
    rw [e5] at h5
    obtain ⟨v, q0, x0, z0, -⟩ := cells_value h0
    obtain ⟨g, q1, x1, -⟩ := cells_value h1
    obtain ⟨s, q2, x2, -⟩ := cells_value h2
    obtain ⟨a, q3, -⟩ := cell_int Tryz.underlying37 h3
    obtain ⟨e, q4, -⟩ := cell_int Tryz.underlying37 h4
    obtain ⟨c, q5, -⟩ := cell_int Tryz.underlying37 h5
    simp only [List.cons.injEq] at q0 q1 q2
    obtain ⟨rfl, rfl, rfl, rfl, rfl, -⟩ := q0
    obtain ⟨rfl, rfl, rfl, rfl, rfl, -⟩ := q1
    obtain ⟨rfl, rfl, rfl, rfl, rfl, -⟩ := q2
    subst q3 q4 q5
    exact ⟨⟨v, g, s, a, e, c⟩, rfl⟩
end
set_option maxRecDepth 100000 in
theorem cells_desc {H : Type} {enc : TypeId × Value → H} {W : World} {base : Nat} {sp : Nat → Bool} {held : Bool} {m : Nat} {x : DataW H × List MemPlace} {cs : List Value} (h : DataW.trod enc Tryz.prog W base sp held m 39 cs = some x) : ∃ d : DD, cs = d.cs :=
  cells_desc' Tryz.underlying39 cellsOf39 rfl rfl rfl rfl rfl rfl rfl rfl rfl rfl rfl rfl h
theorem cellsOf33 : Tryz.prog.cellsOf 33 = 2 := by kernel_rfl
section
variable {H : Type} {enc : TypeId × Value → H} {P : Program} {W : World} {base : Nat} {sp : Nat → Bool} {held : Bool} {m : Nat} {c : Value} {x : DataW H × List MemPlace} {t : TypeId}
set_option maxRecDepth 100000 in
theorem cells_key' {f0 f1 : Field} {cs : List Value} (hs : Tryz.prog.underlying t = some (.struct #[f0, f1])) (hC : Tryz.prog.cellsOf t = 2) (o0 : f0.offset = 0) (o1 : f1.offset = 1) (t0 : f0.type = 9) (t1 : f1.type = 3)
    (h : DataW.trod enc Tryz.prog W base sp held m t cs = some x) : ∃ k : KK, cs = k.cs ∧ OkK k := by
  obtain ⟨xs, n, _, rfl, hl, hlen, hf⟩ := DataW.trod_struct hs h
  rw [hC] at hl
  match cs, hl with
  | [c0, c1], _ =>
    have h0 := hf 0 _ rfl
    have h1 := hf 1 _ rfl
    simp [t0, t1, o0, o1, cellsOf9, cellsOf3] at h0 h1 hlen
    have g : ∀ j, j < 2 → ∃ y, xs[j]? = some y := fun j hj => ⟨_, List.getElem?_eq_getElem (by omega)⟩
    obtain ⟨y0, e0⟩ := g 0 (by omega)
    obtain ⟨y1, e1⟩ := g 1 (by omega)
    rw [e0] at h0
    rw [e1] at h1
    obtain ⟨s, rfl, hs1, -⟩ := cell_string Tryz.underlying9 h0
    obtain ⟨n, rfl, hn1, -⟩ := cell_int Tryz.underlying3 h1
    exact ⟨⟨s, n⟩, rfl, hs1, hn1⟩
end
set_option maxRecDepth 100000 in
theorem cells_key {H : Type} {enc : TypeId × Value → H} {W : World} {base : Nat} {sp : Nat → Bool} {held : Bool} {m : Nat} {x : DataW H × List MemPlace} {cs : List Value} (h : DataW.trod enc Tryz.prog W base sp held m 33 cs = some x) : ∃ k : KK, cs = k.cs ∧ OkK k :=
  cells_key' Tryz.underlying33 cellsOf33 rfl rfl rfl rfl h
theorem cellsOf41 : Tryz.prog.cellsOf 41 = 23 := by kernel_rfl
theorem cellsOf22 : Tryz.prog.cellsOf 22 = 1 := by kernel_rfl
section
variable {H : Type} {enc : TypeId × Value → H} {W : World} {base : Nat} {sp : Nat → Bool} {held : Bool} {m : Nat} {t : TypeId} {x : DataW H × List MemPlace}
end
theorem add_plain (b o i : Nat) : (Addr.add ⟨b, o, none⟩ i) = ⟨b, o + i, none⟩ := by
  unfold Addr.add
  by_cases h : i = 0
  · subst h; simp
  · simp [h]
theorem cell_spot' {w : World} {b o : Nat} {sp : Option Nat} {v : Value} (h : w.cell? ⟨b, o, sp⟩ = some v) : sp = none ∧ b < w.heap.size := by
  constructor
  · cases sp with
    | none => rfl
    | some s =>
      simp only [World.cell?] at h
      split at h <;> simp at h
  · rcases Nat.lt_or_ge b w.heap.size with h' | h'
    · exact h'
    · simp [World.cell?, Array.getElem?_eq_none h'] at h
end
end Go.Proofs.YtpbdidnphkkenaaGreatDoor
namespace Go.Proofs.YtpbdidnphkkenaaGreatDoor
set_option maxHeartbeats 1000000
section
open Go Go.Proofs Go.RowKit Go.WideShapes Go.ChangeShapes
section
variable {H : Type} {enc : TypeId × Value → H} {W : World} {base : Nat} {sp : Nat → Bool} {held : Bool} {m : Nat} {t : TypeId} {x : DataW H × List MemPlace}
set_option maxRecDepth 100000 in
theorem cells_act5' {f0 f1 f2 f3 f4 : Field} {cs : List Value} (hs : Tryz.prog.underlying t = some (.struct #[f0, f1, f2, f3, f4])) (hC : Tryz.prog.cellsOf t = 23)
    (o0 : f0.offset = 0) (o1 : f1.offset = 1) (o2 : f2.offset = 3) (o3 : f3.offset = 21) (o4 : f4.offset = 22)
    (t0 : f0.type = 3) (t1 : f1.type = 33) (t2 : f2.type = 39) (t3 : f3.type = 3) (t4 : f4.type = 22)
    (h : DataW.trod enc Tryz.prog W base sp held m t cs = some x) : ∃ a : AA, cs = a.cs ∧ OkK a.k ∧ ∃ m' y, DataW.trod enc Tryz.prog W base sp held m' 22 [a.inner] = some y := by
  obtain ⟨xs, n, _, rfl, hl, hlen, hf⟩ := DataW.trod_struct hs h
  rw [hC] at hl
  match cs, hl with
  | [c0, c1, c2, c3, c4, c5, c6, c7, c8, c9, c10, c11, c12, c13, c14, c15, c16, c17, c18, c19, c20, c21, c22], _ =>
    have h0 := hf 0 _ rfl
    have h1 := hf 1 _ rfl
    have h2 := hf 2 _ rfl
    have h3 := hf 3 _ rfl
    have h4 := hf 4 _ rfl
    simp [t0, t1, t2, t3, t4, o0, o1, o2, o3, o4, cellsOf3, cellsOf33, cellsOf39, cellsOf22] at h0 h1 h2 h3 h4 hlen
    have g : ∀ j, j < 5 → ∃ y, xs[j]? = some y := fun j hj => ⟨_, List.getElem?_eq_getElem (by omega)⟩
    obtain ⟨y0, e0⟩ := g 0 (by omega)
    obtain ⟨y1, e1⟩ := g 1 (by omega)
    obtain ⟨y2, e2⟩ := g 2 (by omega)
    obtain ⟨y3, e3⟩ := g 3 (by omega)
    rw [e0] at h0
    rw [e1] at h1
    rw [e2] at h2
    rw [e3] at h3
    obtain ⟨y4, e4⟩ := g 4 (by omega)
    rw [e4] at h4
    obtain ⟨kd, rfl, -, -⟩ := cell_int Tryz.underlying3 h0
    obtain ⟨k, hk, hok⟩ := cells_key h1
    obtain ⟨d, hd⟩ := cells_desc h2
    obtain ⟨z, rfl, -, -⟩ := cell_int Tryz.underlying3 h3
    refine ⟨⟨kd, k, d, z, c22⟩, ?_, hok, _, _, h4⟩
    show _ = actCs kd k d z c22
    unfold actCs
    rw [← hk, ← hd]
    rfl
end
set_option maxRecDepth 100000 in
theorem cells_act5 {H : Type} {enc : TypeId × Value → H} {W : World} {base : Nat} {sp : Nat → Bool} {held : Bool} {m : Nat} {x : DataW H × List MemPlace} {cs : List Value} (h : DataW.trod enc Tryz.prog W base sp held m 41 cs = some x) : ∃ a : AA, cs = a.cs ∧ OkK a.k ∧ ∃ m' y, DataW.trod enc Tryz.prog W base sp held m' 22 [a.inner] = some y :=
  cells_act5' Tryz.underlying41 cellsOf41 rfl rfl rfl rfl rfl rfl rfl rfl rfl rfl h
set_option maxRecDepth 100000 in
/-- Acts within acts, opened as deep as f. -/
theorem open_rd {H : Type} {enc : TypeId × Value → H} {W : World} {sp : Nat → Bool} {held : Bool} : ∀ (f fuel : Nat) (cs : List Value) (x : DataW H × List MemPlace), DataW.trod enc Tryz.prog W 0 sp held fuel 22 cs = some x → ∃ v, cs = [v] ∧ RdA f W W.heap.size v
  | 0, fuel, cs, x, h => by
    rcases Go.Deep.open_slice Tryz.underlying22 h with ⟨hcs, _⟩ | ⟨a, len, cap, m, n, D, Pl, hcs, _⟩
    · exact ⟨_, hcs, trivial⟩
    · exact ⟨_, hcs, trivial⟩
  | f + 1, fuel, cs, x, h => by
    rcases Go.Deep.open_slice Tryz.underlying22 h with ⟨hcs, _⟩ | ⟨a, len, cap, m, n, D, Pl, hcs, _, hl, hm, hme, hx, hel⟩
    · exact ⟨_, hcs, none, 0, 0, rfl, fun j hj => absurd hj (Nat.not_lt_zero j)⟩
    · refine ⟨_, hcs, some a, len, cap, rfl, fun j hj => ?_⟩
      have hjm : j < m := by
        rw [hme]
        split <;> omega
      obtain ⟨cs', h1, h2⟩ := hel j hjm
      obtain ⟨u, rfl, hok, m', y, h3⟩ := cells_act5 h2
      rw [cellsOf41] at h1
      obtain ⟨v, hv, hr⟩ := open_rd f m' [u.inner] y h3
      obtain rfl : u.inner = v := by simpa using hv
      have hc := (World.cells?_some h1).2.2
      obtain ⟨b, off, spt⟩ := a
      have hs : spt = none ∧ b < W.heap.size := by
        obtain ⟨cs0, h10, h20⟩ := hel 0 (by omega)
        rw [cellsOf41] at h10
        have h00 := (World.cells?_some h10).2.2 0 (by omega)
        have e0 : (Addr.add (Addr.add ⟨b, off, spt⟩ (0 * 23)) 0) = ⟨b, off, spt⟩ := by simp [Addr.add]
        rw [e0] at h00
        obtain ⟨u0, rfl, _⟩ := cells_act5 h20
        exact cell_spot' (h00.trans rfl)
      obtain ⟨rfl, hbl⟩ := hs
      refine ⟨b, off, u.kd, u.k, u.d, u.n, u.inner, rfl, hbl, hok, fun t z hz => ?_, hr⟩
      have ht : t < 23 := (List.getElem?_eq_some_iff.1 hz).1
      have h9 := hc t (by omega)
      rw [add_plain, add_plain] at h9
      rw [h9]
      exact hz
set_option maxRecDepth 100000 in
theorem law_walks (A : Option Addr) (n cap : Nat) (w : World) (hU : Lib.Utf8Tabs 2 3 w) (hP : TabP w) (hr : RdA 5 w w.heap.size (.slice A n cap)) : Calls Tryz.prog 4 #[.slice A n cap] w fun e w' => e = .returned (.bool true) ∧ Below w.heap.size w w' := by
  have HU : Hid (∀ X, Below w.heap.size w X → Lib.Utf8Tabs 2 3 X ∧ TabP X) := hide (fun X hX => ⟨tabs_fr hU (Fr.of_below hX []) (by simp), hP.on hX⟩)
  have h4 : 4 ≤ w.heap.size := by have := tabs_size hU; omega
  have HN := hide (newPair w h4)
  obtain ⟨A', n', c', hv, hrd⟩ := hr
  injection hv with e1 e2 e3
  subst e1 e2 e3
  have HR := hide hrd
  have C6 := hide (few6 A n cap w)
  clear hU hP hrd h4
  by_cases hf : n ≤ 400
  · rw [show decide ((n : Int) ≤ 400) = true from decide_eq_true (by omega)] at C6
    go_enter Tryz.func4, Tryz.ntmps4
    go_wp2_with fail
    refine (unhide C6).mono ?_
    rintro _ x6 ⟨rfl, e6⟩
    rw [e6]
    clear e6 x6 C6
    go_wp2_with fail
    refine (unhide HN).mono ?_
    rintro _ w2 ⟨S, rfl, hS, hl4, hC0, hb2⟩
    have HP := hide hS.bs.hold
    have HS := hide (And.intro hS (And.intro hb2 (And.intro hl4 hC0)))
    clear hS hb2 HN hl4 hC0
    go_wp2_with (first | go_skip | ((with_reducible show wpList _ _ _ _ _ _); first | ((with_reducible show wpList _ _ _ (Oper.mk _ (Op.load _ _) _ _ _ _ :: _) _ _); (refine rd (by rfl) (ex_load1 26 Tryz.isAgg26 rfl rfl (unhide HP) rfl) ?_); simp only [Act.put, n1, n2, n3])))
    go_loopg [4] n (fun gm s4 wr => ∃ (j N : Nat) (S' : PS), s4 = .int .i64 j ∧ j ≤ n ∧ n - j ≤ gm ∧ Hid (S'.Is wr w.heap.size N ∧ S'.P = S.P ∧ Below w.heap.size w wr ∧ S'.C = [] ∧ Pot S' N ≤ 512000 + 256 * (j : Int) ∧ -170 * (j : Int) ≤ min S'.left 0))
    case atStart => exact ⟨0, 0, S, rfl, by omega, by omega, hide ⟨(unhide HS).1, rfl, (unhide HS).2.1, (unhide HS).2.2.2, by unfold Pot; rw [(unhide HS).2.2.1]; decide, by rw [(unhide HS).2.2.1]; decide⟩⟩
    case round =>
      obtain ⟨j, N, S', rfl, hj, hg, HV⟩ := hrel
      by_cases hjl : j < n
      · have hjz : (j : Int) < n := by omega
        obtain ⟨g, off, kd, k, d, nn, inner, hA, hgl, hok, hrg, hin⟩ := (unhide HR) j hjl
        subst hA
        have HX : Hid (wr.rangeAt g (off + j * 23) (actCs kd k d nn inner)) := hide (rng_on hrg ((unhide HV).2.2.1.block g hgl))
        have C8 := hide (playAt0 S' kd k d nn inner wr w.heap.size N (unhide HV).1 (by have := (unhide HV).2.2.2.2.1; omega) (by have := (unhide HV).2.2.2.2.2; omega) (fun X hX => (unhide HU) X ((unhide HV).2.2.1.trans hX)) hok (RdA.on (unhide HV).2.2.1 _ _ hin) (fun _ => (unhide HV).2.2.2.1))
        rw [(unhide HV).2.1] at C8
        clear hgl hok hrg hin
        go_wp2_with (first | go_skip | ((with_reducible show wpList _ _ _ _ _ _); first | ((with_reducible show wpList _ _ _ (Oper.mk _ (Op.indexAddr _ _ _) _ _ _ _ :: _) _ _); (refine rd (by rfl) (ex_index22 j rfl rfl rfl hjl) ?_); simp only [Act.put, n1, n2, n3]) | ((with_reducible show wpList _ _ _ (Oper.mk _ (Op.load _ _) _ _ _ _ :: _) _ _); (refine rd (by rfl) (ex_loadR (vs := actCs kd k d nn inner) 41 23 row41 siz41 rfl rfl (unhide HX) rfl) ?_); simp only [Act.put, n1, n2, n3])))
        refine (unhide C8).mono ?_
        rintro _ w4 ⟨rfl, S4, N4, hS4, hW4, hP4, hl4⟩
        have HV4 : Hid (S4.Is w4 w.heap.size N4 ∧ S4.P = S.P ∧ Below w.heap.size w w4 ∧ S4.C = [] ∧ Pot S4 N4 ≤ 512000 + 256 * ((j + 1 : Nat) : Int) ∧ -170 * ((j + 1 : Nat) : Int) ≤ min S4.left 0) := hide ⟨hS4, hW4.P.trans (unhide HV).2.1, (unhide HV).2.2.1.trans (hW4.below (unhide HV).1.bs (unhide HV).1.bs.size), hW4.C.trans (unhide HV).2.2.2.1, by have := (unhide HV).2.2.2.2.1; omega, by have := (unhide HV).2.2.2.2.2; omega⟩
        clear hS4 hW4 hP4 hl4 C8
        go_wp2
        go_roundg (n - (j + 1))
        case measure => omega
        case rel => exact ⟨j + 1, N4, S4, by go_num, by omega, Nat.le_refl _, HV4⟩
      · have hjz : ¬ (j : Int) < n := by omega
        have hN8 : N < 800000 := by have h1 := Pot.lt (unhide HV).2.2.2.2.1; omega
        have C1 := hide (tell_all S' wr w.heap.size N (unhide HV).1 hN8 ((unhide HU) _ (unhide HV).2.2.1).1 ((unhide HU) _ (unhide HV).2.2.1).2)
        rw [(unhide HV).2.1] at C1
        have HN8 := hide hN8
        clear hN8
        go_wp2_with fail
        refine (unhide C1).mono ?_
        rintro _ w5 ⟨rfl, hb⟩
        have HV5 := hide (And.intro ((unhide HV).1.on hb) ((unhide HV).2.2.1.trans (hb.mono (unhide HV).2.2.1.size)))
        clear hb C1
        have C2 := hide (tell_all1 S' w5 w.heap.size N (unhide HV5).1 (unhide HN8) ((unhide HU) _ (unhide HV5).2).1 ((unhide HU) _ (unhide HV5).2).2)
        rw [(unhide HV).2.1] at C2
        go_wp2_with fail
        refine (unhide C2).mono ?_
        rintro _ w6 ⟨rfl, hb⟩
        have HB := hide ((unhide HV5).2.trans (hb.mono (unhide HV5).2.size))
        clear hb C2
        go_wp2
        go_ret
        exact ⟨rfl, unhide HB⟩
  · rw [show decide ((n : Int) ≤ 400) = false from decide_eq_false (by omega)] at C6
    go_enter Tryz.func4, Tryz.ntmps4
    go_wp2_with fail
    refine (unhide C6).mono ?_
    rintro _ x6 ⟨rfl, e6⟩
    rw [e6]
    clear e6 x6 C6
    go_wp2
    go_ret
    exact ⟨rfl, Below.refl _ _⟩
