import Derived.Test.YtkpfikeggleenaaGreatDoorUc
import Derived.Shelf.SlMaps.Clone

/-! Xk -/
namespace Go.Proofs.YtkpfikeggleenaaGreatDoor
open Go Go.Proofs Go.Maps Go.RowKit
set_option linter.unusedSimpArgs false
set_option linter.unusedVariables false
set_option maxHeartbeats 1000000
/-! The pair of registries. -/
def Dj (a b : List Nat) : Prop := ∀ x ∈ a, x ∉ b
theorem Dj.symm {a b : List Nat} (h : Dj a b) : Dj b a := fun x hx hy => h x hy hx
theorem Dj.grow {a a' b : List Nat} {S : Nat} (h : Dj a b) (h1 : ∀ x ∈ a', x ∈ a ∨ S ≤ x) (h2 : ∀ x ∈ b, x < S) : Dj a' b := fun x hx hb => by
  rcases h1 x hx with e | e
  · exact h x e hb
  · have := h2 x hb
    omega
structure OW (W : World) (R : RG) : Prop where
  is : ∃ n sz F, R.Is W n sz F ∧ RL R.l F ∧ n ≤ R.l.length ∧ sz ≤ R.l.length
  len : R.l.length ≤ 65536
structure PS (w0 W : World) (P : Nat) (R0 R1 : RG) (Q0 Q1 : RF) : Prop where
  hold : Holds W P [pt R0.r, pt R1.r, pt Q0.r, pt Q1.r]
  o0 : OW W R0
  o1 : OW W R1
  f0 : Q0.Is W
  f1 : Q1.Is W
  d01 : Dj R0.blocks R1.blocks
  d00 : Dj R0.blocks Q0.blocks
  e01 : Dj R0.blocks Q1.blocks
  e10 : Dj R1.blocks Q0.blocks
  d11 : Dj R1.blocks Q1.blocks
  q01 : Dj Q0.blocks Q1.blocks
  p0 : Dj [P] R0.blocks
  p1 : Dj [P] R1.blocks
  p2 : Dj [P] Q0.blocks
  p3 : Dj [P] Q1.blocks
  fr : Fr w0 W []
  ge : w0.heap.size ≤ P ∧ (∀ b ∈ R0.blocks, w0.heap.size ≤ b) ∧ (∀ b ∈ R1.blocks, w0.heap.size ≤ b) ∧ (∀ b ∈ Q0.blocks, w0.heap.size ≤ b) ∧ (∀ b ∈ Q1.blocks, w0.heap.size ≤ b)
theorem OW.block {W W' : World} {R : RG} (h : OW W R) (he : ∀ b ∈ R.blocks, W'.heap[b]? = W.heap[b]?) : OW W' R := by
  obtain ⟨⟨n, sz, F, h1, h2⟩, h3⟩ := h
  exact ⟨⟨n, sz, F, h1.block he, h2⟩, h3⟩
theorem OW.lt {W : World} {R : RG} (h : OW W R) : ∀ b ∈ R.blocks, b < W.heap.size := by
  obtain ⟨⟨n, sz, F, h1, h2⟩, h3⟩ := h
  exact h1.lt
section
variable {w0 W X : World} {P : Nat} {R0 R1 R0' : RG} {Q0 Q1 Q0' : RF}
theorem PS.on (h : PS w0 W P R0 R1 Q0 Q1) (hb : Below W.heap.size W X) : PS w0 X P R0 R1 Q0 Q1 :=
  ⟨h.hold.block (hb.block _ (h.hold.lt (Nat.succ_pos _))), h.o0.block (fun b hb' => hb.block b (h.o0.lt b hb')), h.o1.block (fun b hb' => hb.block b (h.o1.lt b hb')), h.f0.on hb, h.f1.on hb, h.d01, h.d00, h.e01, h.e10, h.d11, h.q01, h.p0, h.p1, h.p2, h.p3, h.fr.on hb, h.ge⟩
theorem PS.drew (h : PS w0 W P R0 R1 Q0 Q1) : PS w0 W.drew P R0 R1 Q0 Q1 := h.on (below_dr (Below.refl _ _))
theorem PS.ltP (h : PS w0 W P R0 R1 Q0 Q1) : P < W.heap.size := h.hold.lt (Nat.succ_pos _)
/-- The first registry has moved on. -/
theorem PS.own (h : PS w0 W P R0 R1 Q0 Q1) (ho : OW X R0') (hr : R0'.r = R0.r) (hf : Fr W X R0.blocks) (hb : ∀ b ∈ R0'.blocks, b ∈ R0.blocks ∨ W.heap.size ≤ b) : PS w0 X P R0' R1 Q0 Q1 := by
  have hP := h.ltP
  have l1 := h.o1.lt
  have m0 := h.f0.lt
  have m1 := h.f1.lt
  refine ⟨by rw [hr]; exact h.hold.block (hf.block _ hP (h.p0 P (List.mem_singleton.2 rfl))), ho, h.o1.block (fun b hb' => hf.block b (l1 b hb') (h.d01.symm b hb')), h.f0.block (fun b hb' => hf.block b (m0 b hb') (h.d00.symm b hb')), h.f1.block (fun b hb' => hf.block b (m1 b hb') (h.e01.symm b hb')),
    h.d01.grow hb l1, h.d00.grow hb m0, h.e01.grow hb m1, h.e10, h.d11, h.q01, (h.p0.symm.grow hb (fun x hx => by rw [List.mem_singleton.1 hx]; exact hP)).symm, h.p1, h.p2, h.p3, h.fr.trans hf (fun b hb' => .inr (h.ge.2.1 b hb')), h.ge.1, fun b hb' => ?_, h.ge.2.2⟩
  rcases hb b hb' with e | e
  · exact h.ge.2.1 b e
  · exact Nat.le_trans h.fr.size e
/-- The first of the document's has moved on. -/
theorem PS.ref (h : PS w0 W P R0 R1 Q0 Q1) (ho : Q0'.Is X) (hr : Q0'.r = Q0.r) (hf : Fr W X Q0.blocks) (hb : ∀ b ∈ Q0'.blocks, b ∈ Q0.blocks ∨ W.heap.size ≤ b) : PS w0 X P R0 R1 Q0' Q1 := by
  have hP := h.ltP
  have l0 := h.o0.lt
  have l1 := h.o1.lt
  have m1 := h.f1.lt
  refine ⟨by rw [hr]; exact h.hold.block (hf.block _ hP (h.p2 P (List.mem_singleton.2 rfl))), h.o0.block (fun b hb' => hf.block b (l0 b hb') (h.d00 b hb')), h.o1.block (fun b hb' => hf.block b (l1 b hb') (h.e10 b hb')), ho, h.f1.block (fun b hb' => hf.block b (m1 b hb') (h.q01.symm b hb')),
    h.d01, (h.d00.symm.grow hb l0).symm, h.e01, (h.e10.symm.grow hb l1).symm, h.d11, h.q01.grow hb m1, h.p0, h.p1, (h.p2.symm.grow hb (fun x hx => by rw [List.mem_singleton.1 hx]; exact hP)).symm, h.p3, h.fr.trans hf (fun b hb' => .inr (h.ge.2.2.2.1 b hb')), h.ge.1, h.ge.2.1, h.ge.2.2.1, fun b hb' => ?_, h.ge.2.2.2.2⟩
  rcases hb b hb' with e | e
  · exact h.ge.2.2.2.1 b e
  · exact Nat.le_trans h.fr.size e
theorem PS.rp0 (h : PS w0 W P R0 R1 Q0 Q1) (e : Q0.l = R0.l) : ∃ n sz F, RP W R0 Q0 n sz F := by
  obtain ⟨⟨n, sz, F, h1, h2, h3, h4⟩, h5⟩ := h.o0
  exact ⟨n, sz, F, h1, h.f0, e, h2, h5, by omega, h4⟩
theorem PS.rp1 (h : PS w0 W P R0 R1 Q0 Q1) (e : Q1.l = R1.l) : ∃ n sz F, RP W R1 Q1 n sz F := by
  obtain ⟨⟨n, sz, F, h1, h2, h3, h4⟩, h5⟩ := h.o1
  exact ⟨n, sz, F, h1, h.f1, e, h2, h5, by omega, h4⟩
theorem PS.at0 (h : PS w0 W P R0 R1 Q0 Q1) : At W P 0 R0 Q0 [pt R0.r, pt R1.r, pt Q0.r, pt Q1.r] := ⟨h.hold, by decide, rfl, rfl⟩
theorem PS.at1 (h : PS w0 W P R0 R1 Q0 Q1) : At W P 1 R1 Q1 [pt R0.r, pt R1.r, pt Q0.r, pt Q1.r] := ⟨h.hold, by decide, rfl, rfl⟩
end
theorem blocks_grow {r m S : Nat} {sv sv' : Value} {l l' : List SY} (hS : ∀ g, sv'.ownBlock = some g → sv.ownBlock = some g ∨ S ≤ g) : ∀ b ∈ (RG.mk r m sv' l').blocks, b ∈ (RG.mk r m sv l).blocks ∨ S ≤ b := by
  intro b hb
  unfold RG.blocks at hb ⊢
  simp only [List.mem_cons] at hb ⊢
  rcases hb with hb | hb | hb
  · exact .inl (.inl hb)
  · exact .inl (.inr (.inl hb))
  · rcases hS b (by simpa using hb) with e | e
    · exact .inl (.inr (.inr (by rw [e]; simp)))
    · exact .inr e
theorem blocks_growF {r S : Nat} {sv sv' : Value} {l l' : List SY} (hS : ∀ g, sv'.ownBlock = some g → sv.ownBlock = some g ∨ S ≤ g) : ∀ b ∈ (RF.mk r sv' l').blocks, b ∈ (RF.mk r sv l).blocks ∨ S ≤ b := by
  intro b hb
  unfold RF.blocks at hb ⊢
  simp only [List.mem_cons] at hb ⊢
  rcases hb with hb | hb
  · exact .inl (.inl hb)
  · rcases hS b (by simpa using hb) with e | e
    · exact .inl (.inr (by rw [e]; simp))
    · exact .inr e
theorem RL.plain {l : List SY} {F : ByteArray → Option Nat} (h : RL l F) (v : VV) : RL (l ++ [SY.mk v false]) F := by
  refine ⟨fun s hs k hk => ?_, fun j y hj hk => ?_⟩
  · obtain ⟨h1, j, h2, h3⟩ := h.k1 s hs k hk
    exact ⟨h1, j, h2, by rw [List.getElem?_append_left (List.getElem?_eq_some_iff.1 h3).1]; exact h3⟩
  · rcases Nat.lt_or_ge j l.length with h1 | h1
    · rw [List.getElem?_append_left h1] at hj
      exact h.k2 j y hj hk
    · rw [List.getElem?_append_right h1] at hj
      have h3 := (List.getElem?_eq_some_iff.1 hj).1
      have h4 : j - l.length = 0 := by simp at h3; omega
      rw [h4] at hj
      have : SY.mk v false = y := by simpa using hj
      subst this
      cases hk
theorem RL.known {l : List SY} {F : ByteArray → Option Nat} (h : RL l F) {s : ByteArray} (hg : (sV s).good = true) (hs : OkS s) (hF : F s = none) : RL (l ++ [SY.mk (sV s) true]) (putS F s (l.length + 1)) := by
  refine ⟨fun t ht k hk => ?_, fun j y hj hk => ?_⟩
  · unfold putS at hk
    split at hk
    · rename_i e
      subst e
      exact ⟨hg, l.length, (Option.some.inj hk).symm, by simp⟩
    · obtain ⟨h1, j, h2, h3⟩ := h.k1 t ht k hk
      exact ⟨h1, j, h2, by rw [List.getElem?_append_left (List.getElem?_eq_some_iff.1 h3).1]; exact h3⟩
  · rcases Nat.lt_or_ge j l.length with h1 | h1
    · rw [List.getElem?_append_left h1] at hj
      obtain ⟨t, rfl, ht, hFt⟩ := h.k2 j y hj hk
      refine ⟨t, rfl, ht, ?_⟩
      unfold putS
      rw [if_neg (fun e => by rw [e, hF] at hFt; cases hFt)]
      exact hFt
    · rw [List.getElem?_append_right h1] at hj
      have h3 := (List.getElem?_eq_some_iff.1 hj).1
      have h4 : j - l.length = 0 := by simp at h3; omega
      rw [h4] at hj
      have e : SY.mk (sV s) true = y := by simpa using hj
      subst e
      refine ⟨s, rfl, hs, ?_⟩
      unfold putS
      rw [if_pos rfl]
      congr 1
      omega
/-- A registry has moved on: what it wrote. -/
def Mv (X Y : World) (A A' : List Nat) (r r' : Nat) : Prop := Fr X Y A ∧ r' = r ∧ ∀ b ∈ A', b ∈ A ∨ X.heap.size ≤ b
theorem Mv.refl {X Y : World} {A : List Nat} {r : Nat} (h : Below X.heap.size X Y) : Mv X Y A A r r := ⟨Fr.of_below h _, rfl, fun _ hb => .inl hb⟩
/-- Make on both sides. -/
theorem make_both {w0 W : World} {P : Nat} {R0 R1 : RG} {Q0 Q1 : RF} (h : PS w0 W P R0 R1 Q0 Q1) (e : Q0.l = R0.l) (hT : Tabs w0) (v : VV) (hx : v.x < 2 ^ 64) : ∃ (N E : Int), (0 ≤ E ∧ E ≤ 1000) ∧
    (∀ X, Below W.heap.size W X → Calls Tryz.prog 11 #[pt R0.r, .agg v.cs.toArray] X fun x w' => x = .returned (.tuple #[.int .i64 N, .int .i64 E]) ∧ ∃ R0', PS w0 w' P R0' R1 Q0 Q1 ∧ Mv X w' R0.blocks R0'.blocks R0.r R0'.r ∧
      (∀ Y, Below w'.heap.size w' Y → Calls Tryz.prog 12 #[pt Q0.r, .agg v.cs.toArray] Y fun x w'' => x = .returned (.tuple #[.int .i64 N, .int .i64 E]) ∧ ∃ Q0', PS w0 w'' P R0' R1 Q0' Q1 ∧ Q0'.l = R0'.l ∧ Mv Y w'' Q0.blocks Q0'.blocks Q0.r Q0'.r)) := by
  cases hd : desV v
  · refine ⟨0, 5, by decide, fun X hX => ?_⟩
    have hXs := h.on hX
    obtain ⟨⟨n, sz, F, h1, h2⟩, h3⟩ := hXs.o0
    refine (make_no R0 v X h1 (hT.fr hXs.fr (by simp)) hd).mono ?_
    rintro x w' ⟨rfl, hb⟩
    refine ⟨rfl, R0, hXs.on hb, Mv.refl hb, fun Y hY => ?_⟩
    have hYs := (hXs.on hb).on hY
    refine (refMake_no Q0 v Y hYs.f0 hx hd).mono ?_
    rintro x w'' ⟨rfl, hb2⟩
    exact ⟨rfl, Q0, hYs.on hb2, e, Mv.refl hb2⟩
  · by_cases hl : 65536 ≤ R0.l.length
    · refine ⟨0, 3, by decide, fun X hX => ?_⟩
      have hXs := h.on hX
      obtain ⟨⟨n, sz, F, h1, h2⟩, h3⟩ := hXs.o0
      refine (make_full R0 v X h1 (hT.fr hXs.fr (by simp)) hd hl).mono ?_
      rintro x w' ⟨rfl, hb⟩
      refine ⟨rfl, R0, hXs.on hb, Mv.refl hb, fun Y hY => ?_⟩
      have hYs := (hXs.on hb).on hY
      refine (refMake_full Q0 v Y hYs.f0 hx hd (by rw [e]; exact hl)).mono ?_
      rintro x w'' ⟨rfl, hb2⟩
      exact ⟨rfl, Q0, hYs.on hb2, e, Mv.refl hb2⟩
    · refine ⟨((R0.l.length + 1 : Nat) : Int), 0, by decide, fun X hX => ?_⟩
      have hXs := h.on hX
      obtain ⟨⟨n, sz, F, h1, h2, h4, h5⟩, h3⟩ := hXs.o0
      refine (make_ok R0 v X h1 (hT.fr hXs.fr (by simp)) hd (by omega)).mono ?_
      rintro x w' ⟨rfl, sv, hI, hF, hS⟩
      have hPS : PS w0 w' P (RG.mk R0.r R0.m sv (R0.l ++ [SY.mk v false])) R1 Q0 Q1 := hXs.own ⟨⟨n, sz, F, hI, h2.plain v, by rw [List.length_append]; omega, by rw [List.length_append]; omega⟩, by rw [List.length_append]; simp; omega⟩ rfl hF (blocks_grow (r := R0.r) (m := R0.m) (sv := R0.sv) (l := R0.l) hS)
      refine ⟨rfl, _, hPS, ⟨hF, rfl, blocks_grow (r := R0.r) (m := R0.m) (sv := R0.sv) (l := R0.l) hS⟩, fun Y hY => ?_⟩
      have hYs := hPS.on hY
      have h5' : 5 ≤ Y.heap.size := (hT.fr hYs.fr (by simp)).sz
      have hc := refMake_ok Q0 v Y hYs.f0 hx h5' hd (by rw [e]; omega)
      rw [e] at hc
      refine hc.mono ?_
      rintro x w'' ⟨rfl, sv2, hI2, hF2, hS2⟩
      refine ⟨rfl, RF.mk Q0.r sv2 (R0.l ++ [SY.mk v false]), hYs.ref hI2 rfl hF2 (blocks_growF (r := Q0.r) (sv := Q0.sv) (l := Q0.l) hS2), rfl, ⟨hF2, rfl, blocks_growF (r := Q0.r) (sv := Q0.sv) (l := Q0.l) hS2⟩⟩
/-- For on both sides. -/
theorem for_both {w0 W : World} {P : Nat} {R0 R1 : RG} {Q0 Q1 : RF} (h : PS w0 W P R0 R1 Q0 Q1) (e : Q0.l = R0.l) (hT : Tabs w0) (s : ByteArray) : ∃ (N E : Int), (0 ≤ E ∧ E ≤ 1000) ∧
    (∀ X, Below W.heap.size W X → Calls Tryz.prog 14 #[pt R0.r, .string s] X fun x w' => x = .returned (.tuple #[.int .i64 N, .int .i64 E]) ∧ ∃ R0', PS w0 w' P R0' R1 Q0 Q1 ∧ Mv X w' R0.blocks R0'.blocks R0.r R0'.r ∧
      (∀ Y, Below w'.heap.size w' Y → Calls Tryz.prog 15 #[pt Q0.r, .string s] Y fun x w'' => x = .returned (.tuple #[.int .i64 N, .int .i64 E]) ∧ ∃ Q0', PS w0 w'' P R0' R1 Q0' Q1 ∧ Q0'.l = R0'.l ∧ Mv Y w'' Q0.blocks Q0'.blocks Q0.r Q0'.r)) := by
  cases hg : (sV s).good
  · refine ⟨0, 5, by decide, fun X hX => ?_⟩
    have hXs := h.on hX
    obtain ⟨⟨n, sz, F, h1, h2⟩, h3⟩ := hXs.o0
    refine (for_no R0 s X h1 (hT.fr hXs.fr (by simp)) hg).mono ?_
    rintro x w' ⟨rfl, hb⟩
    refine ⟨rfl, R0, hXs.on hb, Mv.refl hb, fun Y hY => ?_⟩
    have hYs := (hXs.on hb).on hY
    refine (refFor_no Q0 s Y hYs.f0 hg).mono ?_
    rintro x w'' ⟨rfl, hb2⟩
    exact ⟨rfl, Q0, hYs.on hb2, e, Mv.refl hb2⟩
  · have hs : OkS s := by have := sV_size hg; unfold OkS maxLen; omega
    obtain ⟨⟨n, sz, F, h1, h2, h4, h5⟩, h3⟩ := h.o0
    have hlt : Q0.l.length ≤ 100000 := by rw [e]; omega
    cases hF : F s with
    | some k =>
      obtain ⟨-, j, rfl, hj⟩ := h2.k1 s hs k hF
      refine ⟨((j + 1 : Nat) : Int), 0, by decide, fun X hX => ?_⟩
      have hXs := h.on hX
      refine (for_old R0 s X (h1.on hX) (hT.fr hXs.fr (by simp)) hg (j + 1) hF).mono ?_
      rintro x w' ⟨rfl, hb⟩
      refine ⟨rfl, R0, hXs.on hb, Mv.refl hb, fun Y hY => ?_⟩
      have hYs := (hXs.on hb).on hY
      refine (refFor_old Q0 s Y hYs.f0 hg j (by rw [e]; exact hj) (fun i y hy hij hk hys => ?_) hlt).mono ?_
      · rw [e] at hy
        obtain ⟨t, rfl, ht, hFt⟩ := h2.k2 i y hy hk
        have e2 : t = s := hys
        subst e2
        rw [hF] at hFt
        have := Option.some.inj hFt
        omega
      · rintro x w'' ⟨rfl, hb2⟩
        exact ⟨rfl, Q0, hYs.on hb2, e, Mv.refl hb2⟩
    | none =>
      have hno : ∀ (i : Nat) (y : SY), Q0.l[i]? = some y → y.k = true → y.v.s ≠ s := fun i y hy hk hys => by
        rw [e] at hy
        obtain ⟨t, rfl, ht, hFt⟩ := h2.k2 i y hy hk
        have e2 : t = s := hys
        subst e2
        rw [hF] at hFt
        cases hFt
      by_cases hl : 65536 ≤ R0.l.length
      · refine ⟨0, 3, by decide, fun X hX => ?_⟩
        have hXs := h.on hX
        refine (for_full R0 s X (h1.on hX) (hT.fr hXs.fr (by simp)) hg hF hl).mono ?_
        rintro x w' ⟨rfl, hb⟩
        refine ⟨rfl, R0, hXs.on hb, Mv.refl hb, fun Y hY => ?_⟩
        have hYs := (hXs.on hb).on hY
        refine (refFor_full Q0 s Y hYs.f0 hg hno hlt (by rw [e]; exact hl)).mono ?_
        rintro x w'' ⟨rfl, hb2⟩
        exact ⟨rfl, Q0, hYs.on hb2, e, Mv.refl hb2⟩
      · refine ⟨((R0.l.length + 1 : Nat) : Int), 0, by decide, fun X hX => ?_⟩
        have hXs := h.on hX
        refine (for_new R0 s X (h1.on hX) (hT.fr hXs.fr (by simp)) hg hF (by omega) (by omega)).mono ?_
        rintro x w' ⟨rfl, sv, hI, hFr, hS⟩
        have hPS : PS w0 w' P (RG.mk R0.r R0.m sv (R0.l ++ [SY.mk (sV s) true])) R1 Q0 Q1 := hXs.own ⟨⟨n + 1, sz + 1, _, hI, h2.known hg hs hF, by rw [List.length_append]; simp; omega, by rw [List.length_append]; simp; omega⟩, by rw [List.length_append]; simp; omega⟩ rfl hFr (blocks_grow (r := R0.r) (m := R0.m) (sv := R0.sv) (l := R0.l) hS)
        refine ⟨rfl, _, hPS, ⟨hFr, rfl, blocks_grow (r := R0.r) (m := R0.m) (sv := R0.sv) (l := R0.l) hS⟩, fun Y hY => ?_⟩
        have hYs := hPS.on hY
        have h5' : 5 ≤ Y.heap.size := (hT.fr hYs.fr (by simp)).sz
        have hc := refFor_new Q0 s Y hYs.f0 hg hno h5' hlt (by rw [e]; omega)
        rw [e] at hc
        refine hc.mono ?_
        rintro x w'' ⟨rfl, sv2, hI2, hF2, hS2⟩
        exact ⟨rfl, RF.mk Q0.r sv2 (R0.l ++ [SY.mk (sV s) true]), hYs.ref hI2 rfl hF2 (blocks_growF (r := Q0.r) (sv := Q0.sv) (l := Q0.l) hS2), rfl, ⟨hF2, rfl, blocks_growF (r := Q0.r) (sv := Q0.sv) (l := Q0.l) hS2⟩⟩
end Go.Proofs.YtkpfikeggleenaaGreatDoor

/-! Xl -/
namespace Go.Proofs.YtkpfikeggleenaaGreatDoor
open Go Go.Proofs Go.Maps Go.RowKit
set_option linter.unusedSimpArgs false
set_option linter.unusedVariables false
set_option maxHeartbeats 1000000
section
variable {ops : Array Oper} {rest : List Oper} {Q : Exit → Act → World → Prop} {a : Act} {w : World} {o : Oper}
theorem noneG (t e : TypeId) (size : Nat) (base : Nat) (hb : base ≤ w.heap.size) (hw : Region.wanted o (yielded ops a.tmps) = true) (ho : o.op = .buildSlice t 0 #[]) (hr : ∀ w, (Instr.buildSlice t 0 #[]).run Tryz.prog w = .ok (.slice (some ⟨w.heap.size, 0, none⟩) 0 0) (w.alloc (Obj.cells #[] e)))
    (h : ∀ X B, B = w.heap.size → X.ownsRow base e size (.slice (some ⟨B, 0, none⟩) 0 0) 0 [] → Below w.heap.size w X → wpList Tryz.prog ops Q rest (a.put o.dst (.slice (some ⟨B, 0, none⟩) 0 0)) X) : wpList Tryz.prog ops Q (o :: rest) a w := by
  refine BigFrame.wpList_want hw fun K hK => ?_
  have hP := hK _ _ (h (w.alloc (Obj.cells #[] e)) w.heap.size rfl ⟨by simp, .inr ⟨w.heap.size, 0, #[], rfl, hb, (MapKept.heap_alloc w _).1, Nat.le_refl _, Nat.zero_le _, by simp, by simp⟩⟩ ((Below.refl _ _).alloc (Nat.le_refl _) _))
  have he : (execOp a.eval o).run Tryz.prog w = .ok (.value (.slice (some ⟨w.heap.size, 0, none⟩) 0 0)) (w.alloc (Obj.cells #[] e)) := by
    unfold execOp
    simp only [ho, List.map_toArray, List.map_nil]
    simp [hr w]
  unfold Oper.wp
  rw [he]
  exact hP
/-- append of a whole row onto an empty one. -/
theorem app_all {t e : TypeId} {size bytes n c c0 B base : Nat} {z : Value} {news : List Value} {A : Option Addr} {s x : Operand} (hw : Region.wanted o (yielded ops a.tmps) = true) (ho : o.op = .call { callee := .builtin .append, args := #[s, x], argTypes := #[t, t] }) (hs : a.eval s = .slice (some ⟨B, 0, none⟩) 0 0) (hx : a.eval x = .slice A n c)
    (ht : Tryz.prog.underlying t = some (.slice e)) (hi : (Tryz.prog.info? e).map (fun i => (i.zero, i.size, i.bytes)) = some (some z, size, bytes)) (hz : z.cells.size = size) (hsz : 0 < size) (hown : w.ownsRow base e size (.slice (some ⟨B, 0, none⟩) 0 0) 0 []) (hrow : w.ownsRow c0 e size (.slice A n c) n news) (h1 : ∀ u ∈ news, u.oneCell' = true)
    (hn : n ≤ 1000000) (hby : bytes ≤ 10000) (hbase : base ≤ w.heap.size) (hB : base ≤ B)
    (h : ∀ A' c' X, X.ownsRow base e size (.slice A' n c') n news → Fr w X [B] → wpList Tryz.prog ops Q rest (a.put o.dst (.slice A' n c')) X) : wpList Tryz.prog ops Q (o :: rest) a w := by
  obtain ⟨i0, hi', hz0, hz1, hz2⟩ := info_parts hi
  rcases hrow.2 with ⟨h2, h0⟩ | ⟨g, cap, cur, h2, h3, h4, h5, h6, h7, h8⟩
  · cases h2
    have hl := hrow.1
    have hnews : news = [] := List.length_eq_zero_iff.1 (by simpa using hl)
    subst hnews
    have hrun := run_append_owned_none (P := Tryz.prog) (w := w) base t o.type e i0 size ht hi' (.slice (some ⟨B, 0, none⟩) 0 0) 0 [] hown
    refine BigFrame.wpList_want hw fun K hK => ?_
    have hP := hK _ _ (h _ _ w hown (Fr.refl _ _))
    unfold Oper.wp
    simp [execOp, ho, resolve, invoke, builtin, hs, hx, hrun, Result.andThen]
    exact hP
  · cases h2
    have hr : w.rangeAt g 0 news := fun j v hv => by
      have hj : cur.toList[j]? = some v := by
        rw [← h8, List.getElem?_take] at hv
        split at hv
        · exact hv
        · cases hv
      have e2 : cur[j]? = some v := by simpa using hj
      simp [World.cell?, h4, e2]
    obtain ⟨A', c', X, he, g2, g3, g4⟩ := ex_appendG (base := base) ho hs hx ht hi hz hsz hown hr hrow.1 h1 (by omega) hby hbase
    rw [Nat.zero_add, List.nil_append] at g2
    rw [Nat.zero_add] at he
    refine BigFrame.wpList_want hw fun K hK => ?_
    have hP := hK _ _ (h A' c' X g2 (Fr.grown g3))
    unfold Oper.wp
    rw [he]
    exact hP
end
theorem eqlSx0 {P : Program} (w : World) (d : Nat) (t e : TypeId) (p : Option Addr) (n c : Nat) (h : P.underlying t = some (.slice e)) : (Op.equalIn (d + 1) t (.slice p n c) (.slice none 0 0)).run P w = .ok p.isNone w := by
  cases p <;> simp [Op.equalIn, run_underlying h]
theorem eqlSx {P : Program} (w : World) (t e : TypeId) (p : Option Addr) (n c : Nat) (h : P.underlying t = some (.slice e)) : (binOp .eql t (.slice p n c) (.slice none 0 0)).run P w = .ok (.bool p.isNone) w := by
  simp only [binOp]
  simp [show Op.equal t (.slice p n c) (.slice none 0 0) = Op.equalIn (9999 + 1) t (.slice p n c) (.slice none 0 0) from rfl, eqlSx0 w 9999 t e p n c h]
theorem none71 (w : World) : (Instr.buildSlice 71 0 #[]).run Tryz.prog w = .ok (.slice (some ⟨w.heap.size, 0, none⟩) 0 0) (w.alloc (Obj.cells #[] 77)) := by kernel_rfl
theorem none39 (w : World) : (Instr.buildSlice 39 0 #[]).run Tryz.prog w = .ok (.slice (some ⟨w.heap.size, 0, none⟩) 0 0) (w.alloc (Obj.cells #[] 81)) := by kernel_rfl
theorem flatS_cell : ∀ (l : List SY), ∀ u ∈ flatS l, u.oneCell' = true
  | [], u, hu => by cases hu
  | d :: l, u, hu => by
    have e : flatS (d :: l) = d.cs ++ flatS l := rfl
    rw [e, List.mem_append] at hu
    rcases hu with hu | hu
    · exact ycs_one d u hu
    · exact flatS_cell l u hu
set_option maxRecDepth 100000 in
theorem sclone38 (A : Option Addr) (c : Nat) (l : List SY) (w : World) (h : OwnS 77 w (.slice A l.length c) l) (hl : l.length ≤ 1000000) : Calls Tryz.prog 38 #[.slice A l.length c] w fun e w' => ∃ A' c', e = .returned (.slice A' l.length c') ∧ w'.ownsRow w.heap.size 77 6 (.slice A' l.length c') l.length (flatS l) ∧ Below w.heap.size w w' := by
  have HLN := hide hl
  have HO := hide h
  have HFR := hide (Fr.refl w [])
  rcases h.2 with ⟨h1, h0⟩ | ⟨g, cap, cur, h1, -⟩
  · have hl0 : l = [] := List.length_eq_zero_iff.1 h0
    subst hl0
    cases h1
    clear h0 hl h
    have hq := fun w => eqlSx (P := Tryz.prog) w 71 77 none 0 0 Tryz.underlying71
    go_enter Tryz.func38, Tryz.ntmps38
    go_wp2
    go_ret
    exact ⟨none, 0, rfl, ⟨rfl, .inl ⟨rfl, rfl⟩⟩, Below.refl _ _⟩
  · cases h1
    clear h hl
    have hq := fun w => eqlSx (P := Tryz.prog) w 71 77 (some ⟨g, 0, none⟩) l.length c Tryz.underlying71
    go_enter Tryz.func38, Tryz.ntmps38
    go_wp2_with (first | go_skip | ((with_reducible show wpList _ _ _ _ _ _); first | ((refine noneG 71 77 6 w.heap.size (unhide HFR).size (by rfl) rfl none71 ?_); intro X1 B1 hE1 hO1 hb1; have HX1 := hide (And.intro hO1 (And.intro hb1 (Nat.le_trans (unhide HFR).size (Nat.le_of_eq hE1.symm)))); replace HFR := hide ((unhide HFR).on hb1); clear hE1 hO1 hb1; simp only [Act.put, List.setIfInBounds_toArray, List.set_cons_succ, List.set_cons_zero]) | ((refine app_all (e := 77) (size := 6) (bytes := 56) (base := w.heap.size) (B := B1) (news := flatS l) (by rfl) rfl rfl rfl Tryz.underlying71 info77 rfl (by decide) (unhide HX1).1 ((OwnS.block (unhide HO) (fun q hq => (unhide HX1).2.1.block q ((unhide HO).lt q hq).2))) (flatS_cell l) (unhide HLN) (by decide) (unhide HFR).size (unhide HX1).2.2 ?_); intro A2 c2 X2 hO2 hf2; have HX2 := hide hO2; have HX2f := hide hf2; replace HFR := hide ((unhide HFR).trans hf2 (fun b hb => .inr (by obtain rfl : b = B1 := (by simpa using hb); exact (unhide HX1).2.2))); clear hO2 hf2; simp only [Act.put, List.setIfInBounds_toArray, List.set_cons_succ, List.set_cons_zero])))
    go_ret
    exact ⟨A2, c2, rfl, unhide HX2, (unhide HFR).below⟩
theorem ex_build41 {o : Oper} {a : Act} {w : World} {x : Operand} {A : Option Addr} {n c : Nat} (ho : o.op = .build 41 #[(0, x)]) (hx : a.eval x = .slice A n c) : (execOp a.eval o).run Tryz.prog w = .ok (.value (.agg #[.slice A n c])) w := by
  have e : (Instr.build 41 #[(0, .slice A n c)]).run Tryz.prog w = .ok (.agg #[.slice A n c]) w := by kernel_rfl
  unfold execOp
  simp only [ho, List.map_toArray, List.map_cons, List.map_nil, hx]
  simp [e]
set_option maxRecDepth 100000 in
theorem refClone17 (R : RF) (w : World) (hR : R.Is w) (h5 : 5 ≤ w.heap.size) (hl : R.l.length ≤ 1000000) : Calls Tryz.prog 17 #[pt R.r] w fun e w' => ∃ R' : RF, e = .returned (pt R'.r) ∧ R'.Is w' ∧ R'.l = R.l ∧ (∀ b ∈ R'.blocks, w.heap.size ≤ b) ∧ Below w.heap.size w w' := by
  have HR := hide hR
  have H5 := hide h5
  obtain ⟨A, c, hv⟩ := hR.own.form
  obtain ⟨r, sv, l⟩ := R
  dsimp only at *
  subst hv
  have HLN := hide hl
  have HFR := hide (Fr.refl w [])
  clear hR hl h5
  go_enter Tryz.func17, Tryz.ntmps17
  go_wp2_with (first | go_skip | ((with_reducible show wpList _ _ _ _ _ _); first | ((refine noneG 39 81 6 w.heap.size (unhide HFR).size (by rfl) rfl none39 ?_); intro X1 B1 hE1 hO1 hb1; have HX1 := hide (And.intro hO1 (And.intro hb1 (Nat.le_trans (unhide HFR).size (Nat.le_of_eq hE1.symm)))); replace HFR := hide ((unhide HFR).on hb1); clear hE1 hO1 hb1; simp only [Act.put, List.setIfInBounds_toArray, List.set_cons_succ, List.set_cons_zero]) | ((refine rd (by rfl) (ex_load1 39 Tryz.isAgg39 rfl rfl (((unhide HR).fr (unhide HFR) (by simp)).hold) rfl) ?_); simp only [Act.put, List.setIfInBounds_toArray, List.set_cons_succ, List.set_cons_zero]) | ((refine app_all (e := 81) (size := 6) (bytes := 56) (base := w.heap.size) (B := B1) (news := flatS l) (by rfl) rfl rfl rfl Tryz.underlying39 info88 rfl (by decide) (unhide HX1).1 (((unhide HR).fr (Fr.of_below (unhide HX1).2.1 []) (by simp)).own) (flatS_cell l) (unhide HLN) (by decide) (unhide HFR).size (unhide HX1).2.2 ?_); intro A2 c2 X2 hO2 hf2; have HX2 := hide hO2; have HX2f := hide hf2; replace HFR := hide ((unhide HFR).trans hf2 (fun b hb => .inr (by obtain rfl : b = B1 := (by simpa using hb); exact (unhide HX1).2.2))); clear hO2 hf2; simp only [Act.put, List.setIfInBounds_toArray, List.set_cons_succ, List.set_cons_zero]) | ((refine rd (by rfl) (ex_build41 rfl rfl) ?_); simp only [Act.put, List.setIfInBounds_toArray, List.set_cons_succ, List.set_cons_zero]) | ((refine bx 41 [.slice A2 l.length c2] (by rfl) rfl rfl rfl (Nat.succ_pos _) (Hq.nil X2 []) ?_); intro X3 B3 hE3 L3 hb3; have HX3 := hide (And.intro (L3.get 0 rfl) (And.intro hb3 hE3)); replace HFR := hide ((unhide HFR).on hb3); clear L3 hb3 hE3; simp only [Act.put, List.setIfInBounds_toArray, List.set_cons_succ, List.set_cons_zero])))
  go_ret
  have hlt := World.ownsRow.lt (unhide HX2)
  have hB3 := (unhide HX3).2.2
  have hsz := (unhide HFR).size
  have hw2 : w.heap.size ≤ X2.heap.size := Nat.le_trans (unhide HX1).2.2 (Nat.le_of_lt (Nat.lt_of_lt_of_le (World.ownsRow.lt (unhide HX1).1 B1 rfl).2 (by
    have := (unhide HX2f).size
    exact this)))
  exact ⟨RF.mk B3 (.slice A2 l.length c2) l, rfl, ⟨(unhide HX3).1, own_mono (own_blk (unhide HX2) (fun q hq => (unhide HX3).2.1.block q (hlt q hq).2)) (unhide H5), fun q hq => Nat.ne_of_lt (hB3 ▸ (hlt q hq).2), Nat.le_trans (unhide H5) (hB3 ▸ hw2)⟩, rfl, fun b hb => by
    simp only [RF.blocks, List.mem_cons] at hb
    rcases hb with rfl | hb
    · omega
    · exact (hlt b (by simpa using hb)).1, (unhide HFR).below⟩
set_option maxRecDepth 100000 in
theorem mclone39 (m : Nat) (es : Array MapEntry) (clock : Nat) (w : World) (hb : w.heap[m]? = some (.map es clock)) : Calls Tryz.prog 39 #[.map (some m)] w fun e w' => e = .returned (.map (some w.heap.size)) ∧ w' = w.alloc (.map es clock) := by
  have hq := fun w => run_eql_map_nil_sl (P := Tryz.prog) w 70 _ _ (some m) Tryz.underlying70
  go_enter Tryz.func39, Tryz.ntmps39
  go_wp2
  rw [run_callFunc_extern Tryz.func51 (by kernel_rfl) (by kernel_rfl) (by kernel_rfl) (e := Extern.MapsClone.clone) (by kernel_rfl), run_maps_clone_sl w 70 hb]
  simp only [Result.andThen]
  rw [Oper.upon_value]
  go_wp2
  rw [run_typeAssert_map_sl _ 70 20 _ _ _ Tryz.underlying70]
  simp only [Result.andThen]
  rw [Oper.upon_value]
  go_wp2
  go_ret
  exact ⟨rfl, rfl⟩
theorem MapS.clone {w : World} {b n sz : Nat} {F : ByteArray → Option Nat} (h : MapS w b n sz F) : Calls Tryz.prog 39 #[.map (some b)] w fun e w' => ∃ B, e = .returned (.map (some B)) ∧ B = w.heap.size ∧ MapS w' B n sz F ∧ Below w.heap.size w w' := by
  obtain ⟨D, ⟨es, clock, hb, Ft, hs, hD⟩, h2, h3⟩ := h
  refine (mclone39 b es clock w hb).mono ?_
  rintro e w' ⟨rfl, rfl⟩
  exact ⟨_, rfl, rfl, ⟨D, ⟨es, clock, (MapKept.heap_alloc w _).1, Ft, hs, hD⟩, h2, h3⟩, (Below.refl _ _).alloc (Nat.le_refl _) _⟩
theorem ex_build73 {o : Oper} {a : Act} {w : World} {x y : Operand} {A : Option Addr} {n c M : Nat} (ho : o.op = .build 73 #[(0, x), (1, y)]) (hx : a.eval x = .slice A n c) (hy : a.eval y = .map (some M)) : (execOp a.eval o).run Tryz.prog w = .ok (.value (.agg #[.slice A n c, .map (some M)])) w := by
  have e : (Instr.build 73 #[(0, .slice A n c), (1, .map (some M))]).run Tryz.prog w = .ok (.agg #[.slice A n c, .map (some M)]) w := by kernel_rfl
  unfold execOp
  simp only [ho, List.map_toArray, List.map_cons, List.map_nil, hx, hy]
  simp [e]
set_option maxRecDepth 100000 in
theorem clone16 (R : RG) (w : World) (hR : OW w R) (h5 : 5 ≤ w.heap.size) : Calls Tryz.prog 16 #[pt R.r] w fun e w' => ∃ R' : RG, e = .returned (pt R'.r) ∧ OW w' R' ∧ R'.l = R.l ∧ (∀ b ∈ R'.blocks, w.heap.size ≤ b) ∧ Below w.heap.size w w' := by
  obtain ⟨⟨n, sz, F, hI, hrl, hn, hsz⟩, hlen⟩ := hR
  have HR := hide hI
  obtain ⟨A, c, hv⟩ := hI.own.form
  obtain ⟨r, m, sv, l⟩ := R
  dsimp only at *
  subst hv
  have HQ := hide (And.intro hrl (And.intro hn (And.intro hsz (And.intro hlen h5))))
  clear hI hrl hn hsz hlen h5
  go_enter Tryz.func16, Tryz.ntmps16
  go_wp2
  have s0 : Fr w w.drew [] := (Fr.refl w []).drew
  have C38 := sclone38 A c l w.drew ((unhide HR).fr s0 (by simp)).own (by have := (unhide HQ).2.2.2.1; omega)
  refine wp_region_held_drew (P := Tryz.prog) (S := fun X => Fr w X []) (by kernel_rfl) s0 (fun hS0 => ?_)
  refine gsem 0 (some 3) (pt r) rfl (by kernel_rfl) (by kernel_rfl) (by kernel_rfl) (fun _ _ _ h => h) (by kernel_rfl) (by kernel_rfl) (fun _ _ => by kernel_rfl) s0 ?_
  simp only [Act.put, List.setIfInBounds_toArray, List.set_cons_succ, List.set_cons_zero]
  refine gsem 1 (some 4) (pt r) rfl (by kernel_rfl) (by kernel_rfl) (by kernel_rfl) (fun _ _ _ h => h) (by kernel_rfl) (by kernel_rfl) (fun _ _ => by kernel_rfl) s0 ?_
  simp only [Act.put, List.setIfInBounds_toArray, List.set_cons_succ, List.set_cons_zero]
  refine gsem 2 (some 5) (pt r) rfl (by kernel_rfl) (by kernel_rfl) (by kernel_rfl) (fun _ _ _ h => h) (by kernel_rfl) (by kernel_rfl) (fun _ _ => by kernel_rfl) s0 ?_
  simp only [Act.put, List.setIfInBounds_toArray, List.set_cons_succ, List.set_cons_zero]
  refine gsem 3 (some 6) (.slice A l.length c) rfl (by kernel_rfl) (by kernel_rfl) (by kernel_rfl) (fun _ _ _ h => h) (by kernel_rfl) (by kernel_rfl) (fun X hX => ex_load1 71 Tryz.isAgg71 rfl rfl (((unhide HR).fr hX (by simp)).hold) rfl) s0 ?_
  simp only [Act.put, List.setIfInBounds_toArray, List.set_cons_succ, List.set_cons_zero]
  refine gsem 5 (some 8) (pt r) rfl (by kernel_rfl) (by kernel_rfl) (by kernel_rfl) (fun _ _ _ h => h) (by kernel_rfl) (by kernel_rfl) (fun _ _ => by kernel_rfl) s0 ?_
  simp only [Act.put, List.setIfInBounds_toArray, List.set_cons_succ, List.set_cons_zero]
  refine gsem 6 (some 9) (pt r) rfl (by kernel_rfl) (by kernel_rfl) (by kernel_rfl) (fun _ _ _ h => h) (by kernel_rfl) (by kernel_rfl) (fun _ _ => by kernel_rfl) s0 ?_
  simp only [Act.put, List.setIfInBounds_toArray, List.set_cons_succ, List.set_cons_zero]
  refine gsem 7 (some 10) (.pointer (some ⟨r, 1, none⟩)) rfl (by kernel_rfl) (by kernel_rfl) (by kernel_rfl) (fun _ _ _ h => h) (by kernel_rfl) (by kernel_rfl) (fun _ _ => by kernel_rfl) s0 ?_
  simp only [Act.put, List.setIfInBounds_toArray, List.set_cons_succ, List.set_cons_zero]
  refine gsem 8 (some 11) (.map (some m)) rfl (by kernel_rfl) (by kernel_rfl) (by kernel_rfl) (fun _ _ _ h => h) (by kernel_rfl) (by kernel_rfl) (fun X hX => ex_load1 70 Tryz.isAgg70 rfl rfl (((unhide HR).fr hX (by simp)).hold) rfl) s0 ?_
  simp only [Act.put, List.setIfInBounds_toArray, List.set_cons_succ, List.set_cons_zero]
  refine wpAnyH_ready (rs := [4]) (by kernel_rfl) (by simp) (gcallR 4 (some 7) rfl (by kernel_rfl) (by kernel_rfl) (by kernel_rfl) C38 ?_ AllReadyH.nil)
  rintro e X4 ⟨A2, c2, rfl, hO2, hb4⟩
  have s4 : Fr w X4 [] := s0.on hb4
  refine ⟨_, rfl, s4, ?_⟩
  simp only [Act.put, List.setIfInBounds_toArray, List.set_cons_succ, List.set_cons_zero]
  have C39 := ((unhide HR).fr s4 (by simp)).map.clone
  refine wpAnyH_ready (rs := [9]) (by kernel_rfl) (by simp) (gcallR 9 (some 12) rfl (by kernel_rfl) (by kernel_rfl) (by kernel_rfl) C39 ?_ AllReadyH.nil)
  rintro e X9 ⟨B9, rfl, hB9, hM9, hb9⟩
  have s9 : Fr w X9 [] := s4.on hb9
  refine ⟨_, rfl, s9, ?_⟩
  simp only [Act.put, List.setIfInBounds_toArray, List.set_cons_succ, List.set_cons_zero]
  refine gsem 10 (some 13) (.agg #[.slice A2 l.length c2, .map (some B9)]) rfl (by kernel_rfl) (by kernel_rfl) (by kernel_rfl) (fun _ _ _ h => h) (by kernel_rfl) (by kernel_rfl) (fun X hX => ex_build73 rfl rfl rfl) s9 ?_
  simp only [Act.put, List.setIfInBounds_toArray, List.set_cons_succ, List.set_cons_zero]
  have bl := (Below.refl X9.heap.size X9).alloc (Nat.le_refl _) (Obj.cells #[.slice A2 l.length c2, .map (some B9)] 73)
  have hN := Holds.new X9 [.slice A2 l.length c2, .map (some B9)] 73
  have s11 : Fr w (X9.alloc (Obj.cells #[.slice A2 l.length c2, .map (some B9)] 73)) [] := s9.on bl
  refine wpAnyH_ready (rs := [11]) (by kernel_rfl) (by simp) (gval 11 (some 14) rfl (by kernel_rfl) (by kernel_rfl) (ex_box 73 [.slice A2 l.length c2, .map (some B9)] rfl rfl rfl) s11 ?_ AllReadyH.nil)
  simp only [Act.put, List.setIfInBounds_toArray, List.set_cons_succ, List.set_cons_zero]
  generalize hX : X9.alloc (Obj.cells #[.slice A2 l.length c2, .map (some B9)] 73) = X11 at *
  generalize hBB : X9.heap.size = B11 at *
  refine gsem 12 (some 2) (pt B11) rfl (by kernel_rfl) (by kernel_rfl) (by kernel_rfl) (fun _ _ _ h => h) (by kernel_rfl) (by kernel_rfl) (fun _ _ => by kernel_rfl) s11 ?_
  simp only [Act.put, List.setIfInBounds_toArray, List.set_cons_succ, List.set_cons_zero]
  refine wpAnyH_done (by kernel_rfl) ?_ _
  try simp only [Act.put, List.setIfInBounds_toArray, List.set_cons_succ, List.set_cons_zero]
  obtain ⟨hrl, hn, hsz, hlen, h5⟩ := unhide HQ
  have hlt := World.ownsRow.lt hO2
  have z0 : w.drew.heap.size = w.heap.size := rfl
  have z9 := hb9.size
  have z11 := bl.size
  have l9 := hM9.lt
  have hO4 : OwnS 77 X11 (.slice A2 l.length c2) l := own_mono (own_blk (own_blk hO2 (fun q hq => hb9.block q (hlt q hq).2)) (fun q hq => bl.block q (by have := (hlt q hq).2; omega))) h5
  have z4 := s4.size
  have FIN : Hid (∃ R' : RG, pt B11 = pt R'.r ∧ OW X11 R' ∧ R'.l = l ∧ (∀ b ∈ R'.blocks, w.heap.size ≤ b) ∧ Below w.heap.size w X11) := hide ⟨RG.mk B11 B9 (.slice A2 l.length c2) l, rfl, ⟨⟨n, sz, F, ⟨hN, hO4, hM9.block (bl.block _ (by omega)), by
    simp only [RG.blocks, List.nodup_cons, List.mem_cons, not_or]
    refine ⟨⟨by omega, fun hm => ?_⟩, fun hm => ?_, ?_⟩
    · have := (hlt B11 (by simpa using hm)).2
      omega
    · have := (hlt B9 (by simpa using hm)).2
      omega
    · cases (Value.slice A2 l.length c2).ownBlock <;> simp, by
    intro b hb
    simp only [RG.blocks, List.mem_cons] at hb
    rcases hb with rfl | rfl | hb
    · omega
    · omega
    · have := (hlt b (by simpa using hb)).1
      omega, (unhide HR).sml⟩, hrl, hn, hsz⟩, hlen⟩, rfl, by
    intro b hb
    simp only [RG.blocks, List.mem_cons] at hb
    rcases hb with rfl | rfl | hb
    · omega
    · omega
    · exact (hlt b (by simpa using hb)).1, s11.below⟩
  clear s0 C38 s4 C39 s9 bl hN s11 hX hBB hO2 hb4 hB9 hM9 hb9 hrl hn hsz hlen h5 hlt z0 z9 z11 l9 hO4 z4 hS0
  go_wp2
  go_ret
  obtain ⟨R', hR', h⟩ := unhide FIN
  exact ⟨R', (by rw [← hR']; rfl), h⟩
end Go.Proofs.YtkpfikeggleenaaGreatDoor

/-! Xm -/
namespace Go.Proofs.YtkpfikeggleenaaGreatDoor
open Go Go.Proofs Go.Maps Go.RowKit
set_option linter.unusedSimpArgs false
set_option linter.unusedVariables false
set_option maxHeartbeats 1000000
theorem row35 : ∃ d, Tryz.prog.underlying 35 = some d ∧ d.isRow = true := ⟨_, Tryz.underlying35, rfl⟩
theorem siz35 : (Tryz.prog.info? 35).map (·.size) = some 5 := by kernel_rfl
theorem ex_build31 {o : Oper} {a : Act} {w : World} {x y : Operand} {v1 v2 v3 v4 : Nat} (ho : o.op = .build 31 #[(0, x), (1, y)]) (hx : a.eval x = .agg #[pt v1, pt v2]) (hy : a.eval y = .agg #[pt v3, pt v4]) : (execOp a.eval o).run Tryz.prog w = .ok (.value (.agg #[pt v1, pt v2, pt v3, pt v4])) w := by
  have e : (Instr.build 31 #[(0, .agg #[pt v1, pt v2]), (1, .agg #[pt v3, pt v4])]).run Tryz.prog w = .ok (.agg #[pt v1, pt v2, pt v3, pt v4]) w := by kernel_rfl
  unfold execOp
  simp only [ho, List.map_toArray, List.map_cons, List.map_nil, hx, hy]
  simp [e]
theorem ex_build27 {o : Oper} {a : Act} {w : World} {x y : Operand} {v1 v2 : Nat} (ho : o.op = .build 27 #[(0, x), (1, y)]) (hx : a.eval x = pt v1) (hy : a.eval y = pt v2) : (execOp a.eval o).run Tryz.prog w = .ok (.value (.agg #[pt v1, pt v2])) w := by
  have e : (Instr.build 27 #[(0, pt v1), (1, pt v2)]).run Tryz.prog w = .ok (.agg #[pt v1, pt v2]) w := by kernel_rfl
  unfold execOp
  simp only [ho, List.map_toArray, List.map_cons, List.map_nil, hx, hy]
  simp [e]
theorem ex_build29 {o : Oper} {a : Act} {w : World} {x y : Operand} {v1 v2 : Nat} (ho : o.op = .build 29 #[(0, x), (1, y)]) (hx : a.eval x = pt v1) (hy : a.eval y = pt v2) : (execOp a.eval o).run Tryz.prog w = .ok (.value (.agg #[pt v1, pt v2])) w := by
  have e : (Instr.build 29 #[(0, pt v1), (1, pt v2)]).run Tryz.prog w = .ok (.agg #[pt v1, pt v2]) w := by kernel_rfl
  unfold execOp
  simp only [ho, List.map_toArray, List.map_cons, List.map_nil, hx, hy]
  simp [e]
theorem wkY_none : ∀ y ∈ wkY, y.k = false := by
  intro y hy
  unfold wkY at hy
  obtain ⟨s, -, rfl⟩ := List.mem_map.1 hy
  rfl
theorem RL.wk : RL wkY (fun _ => none) := ⟨fun _ _ k hk => (by cases hk), fun j y hj hk => by
  have := wkY_none y (List.mem_of_getElem? hj)
  rw [this] at hk
  cases hk⟩
theorem OW.new {W : World} {R : RG} (h : R.Is W 0 0 (fun _ => none)) (hl : R.l = wkY) : OW W R := ⟨⟨0, 0, _, h, by rw [hl]; exact RL.wk, Nat.zero_le _, Nat.zero_le _⟩, by rw [hl, wkY_length]; decide⟩
theorem Dj.of {a b : List Nat} {S : Nat} (h1 : ∀ x ∈ a, x < S) (h2 : ∀ x ∈ b, S ≤ x) : Dj a b := fun x hx hb => by
  have := h1 x hx
  have := h2 x hb
  omega
section
variable {w0 W X Y : World} {P : Nat} {R0 R1 R1' : RG} {Q0 Q1 Q1' : RF}
theorem OW.fr {E : List Nat} (h : OW W R0) (hb : Fr W X E) (hE : Dj E R0.blocks) : OW X R0 := h.block (fun b hb' => hb.block b (h.lt b hb') (hE.symm b hb'))
/-- The second registry is another. -/
theorem PS.put1 (h : PS w0 W P R0 R1 Q0 Q1) (hX : Below W.heap.size W X) (ho : OW X R1') (hb : ∀ b ∈ R1'.blocks, W.heap.size ≤ b) (hf : Fr X Y [P]) (hh : Holds Y P [pt R0.r, pt R1'.r, pt Q0.r, pt Q1.r]) : PS w0 Y P R0 R1' Q0 Q1 := by
  have k := h.on hX
  have hp : Dj [P] R1'.blocks := Dj.of (S := W.heap.size) (fun x hx => by rw [List.mem_singleton.1 hx]; exact h.ltP) hb
  exact ⟨hh, k.o0.fr hf k.p0, ho.fr hf hp, k.f0.fr hf k.p2.symm, k.f1.fr hf k.p3.symm, Dj.of h.o0.lt hb, k.d00, k.e01, (Dj.of h.f0.lt hb).symm, (Dj.of h.f1.lt hb).symm, k.q01, k.p0, hp, k.p2, k.p3, k.fr.trans hf (fun b hb' => .inr (by rw [List.mem_singleton.1 hb']; exact k.ge.1)), k.ge.1, k.ge.2.1, fun b hb' => Nat.le_trans h.fr.size (hb b hb'), k.ge.2.2.2⟩
/-- The document's second is another. -/
theorem PS.put3 (h : PS w0 W P R0 R1 Q0 Q1) (hX : Below W.heap.size W X) (ho : Q1'.Is X) (hb : ∀ b ∈ Q1'.blocks, W.heap.size ≤ b) (hf : Fr X Y [P]) (hh : Holds Y P [pt R0.r, pt R1.r, pt Q0.r, pt Q1'.r]) : PS w0 Y P R0 R1 Q0 Q1' := by
  have k := h.on hX
  have hp : Dj [P] Q1'.blocks := Dj.of (S := W.heap.size) (fun x hx => by rw [List.mem_singleton.1 hx]; exact h.ltP) hb
  exact ⟨hh, k.o0.fr hf k.p0, k.o1.fr hf k.p1, k.f0.fr hf k.p2.symm, ho.fr hf hp.symm, k.d01, k.d00, Dj.of h.o0.lt hb, k.e10, Dj.of h.o1.lt hb, Dj.of h.f0.lt hb, k.p0, k.p1, k.p2, hp, k.fr.trans hf (fun b hb' => .inr (by rw [List.mem_singleton.1 hb']; exact k.ge.1)), k.ge.1, k.ge.2.1, k.ge.2.2.1, k.ge.2.2.2.1, fun b hb' => Nat.le_trans h.fr.size (hb b hb')⟩
theorem PS.swap0 (k : PS w0 W P R0 R1 Q0 Q1) (hf : Fr W Y [P]) (hh : Holds Y P [pt R1.r, pt R0.r, pt Q0.r, pt Q1.r]) : PS w0 Y P R1 R0 Q0 Q1 :=
  ⟨hh, k.o1.fr hf k.p1, k.o0.fr hf k.p0, k.f0.fr hf k.p2.symm, k.f1.fr hf k.p3.symm, k.d01.symm, k.e10, k.d11, k.d00, k.e01, k.q01, k.p1, k.p0, k.p2, k.p3, k.fr.trans hf (fun b hb' => .inr (by rw [List.mem_singleton.1 hb']; exact k.ge.1)), k.ge.1, k.ge.2.2.1, k.ge.2.1, k.ge.2.2.2⟩
theorem PS.swap2 (k : PS w0 W P R0 R1 Q0 Q1) (hf : Fr W Y [P]) (hh : Holds Y P [pt R0.r, pt R1.r, pt Q1.r, pt Q0.r]) : PS w0 Y P R0 R1 Q1 Q0 :=
  ⟨hh, k.o0.fr hf k.p0, k.o1.fr hf k.p1, k.f1.fr hf k.p3.symm, k.f0.fr hf k.p2.symm, k.d01, k.e01, k.d00, k.d11, k.e10, k.q01.symm, k.p0, k.p1, k.p3, k.p2, k.fr.trans hf (fun b hb' => .inr (by rw [List.mem_singleton.1 hb']; exact k.ge.1)), k.ge.1, k.ge.2.1, k.ge.2.2.1, k.ge.2.2.2.2, k.ge.2.2.2.1⟩
theorem PS.sml (h : PS w0 W P R0 R1 Q0 Q1) : ∀ y ∈ R0.l, y.v.s.size ≤ 1048576 := by
  obtain ⟨⟨n, sz, F, h1, h2⟩, h3⟩ := h.o0
  exact h1.sml
theorem PS.fr1 (h : PS w0 W P R0 R1 Q0 Q1) (hb : Fr W X []) : PS w0 X P R0 R1 Q0 Q1 := h.on hb.below
end
set_option maxRecDepth 100000 in
theorem newPair5 (w : World) (hT : Tabs w) (hN : Nm w) : Calls Tryz.prog 5 #[] w fun e w' => ∃ P R0 R1 Q0 Q1, e = .returned (pt P) ∧ PS w w' P R0 R1 Q0 Q1 ∧ R0.l = wkY ∧ R1.l = wkY ∧ Q0.l = wkY ∧ Q1.l = wkY := by
  have HN := hide (fun X (hX : Fr w X []) => new12 X (hT.fr hX (by simp)))
  have HF := hide (fun X (hX : Fr w X []) => refNew22 X (hN.fr hX (by simp)))
  have LL := hide (Hq.nil w [])
  clear hT hN
  go_enter Tryz.func5, Tryz.ntmps5
  go_wp2_with fail
  refine (unhide HN _ (unhide LL).fr).mono ?_
  rintro e X1 ⟨R1, rfl, hI1, hl1, hg1, hb1⟩
  replace LL := hide ((unhide LL).on hb1)
  have H1 := hide (And.intro (OW.new hI1 hl1) hl1)
  have G1 := hide (And.intro hg1 hb1)
  clear hI1 hl1 hb1 hg1
  go_wp2_with fail
  refine (unhide HN _ (unhide LL).fr).mono ?_
  rintro e X2 ⟨R2, rfl, hI2, hl2, hg2, hb2⟩
  replace LL := hide ((unhide LL).on hb2)
  have H2 := hide (And.intro (OW.new hI2 hl2) hl2)
  have G2 := hide (And.intro hg2 hb2)
  clear hI2 hl2 hb2 hg2
  go_wp2_with (first | go_skip | ((with_reducible show wpList _ _ _ _ _ _); first | ((refine rd (by rfl) (ex_build27 (v1 := R1.r) (v2 := R2.r) rfl rfl rfl) ?_); simp only [Act.put, List.setIfInBounds_toArray, List.set_cons_succ, List.set_cons_zero])))
  refine (unhide HF _ (unhide LL).fr).mono ?_
  rintro e X3 ⟨Q1, rfl, hI3, hl3, hg3, hb3⟩
  replace LL := hide ((unhide LL).on hb3)
  have H3 := hide (And.intro hI3 hl3)
  have G3 := hide (And.intro hg3 hb3)
  clear hI3 hl3 hb3 hg3
  go_wp2_with fail
  refine (unhide HF _ (unhide LL).fr).mono ?_
  rintro e X4 ⟨Q2, rfl, hI4, hl4, hg4, hb4⟩
  replace LL := hide ((unhide LL).on hb4)
  have H4 := hide (And.intro hI4 hl4)
  have G4 := hide (And.intro hg4 hb4)
  clear hI4 hl4 hb4 hg4
  go_wp2_with (first | go_skip | ((with_reducible show wpList _ _ _ _ _ _); first | ((refine rd (by rfl) (ex_build29 (v1 := Q1.r) (v2 := Q2.r) rfl rfl rfl) ?_); simp only [Act.put, List.setIfInBounds_toArray, List.set_cons_succ, List.set_cons_zero]) | ((refine rd (by rfl) (ex_build31 (v1 := R1.r) (v2 := R2.r) (v3 := Q1.r) (v4 := Q2.r) rfl rfl rfl) ?_); simp only [Act.put, List.setIfInBounds_toArray, List.set_cons_succ, List.set_cons_zero]) | ((refine bx 31 ([pt R1.r, pt R2.r, pt Q1.r, pt Q2.r]) (by rfl) rfl rfl rfl (Nat.succ_pos _) (unhide LL) ?_); intro X5 B5 hE5 L5 hb5; have hB5 := hide (Nat.le_trans (unhide LL).fr.size (Nat.le_of_eq hE5.symm)); replace LL := hide L5; have G5 := hide (And.intro hE5 hb5); clear L5 hb5 hE5; simp only [Act.put, List.setIfInBounds_toArray, List.set_cons_succ, List.set_cons_zero])))
  go_ret
  obtain ⟨g1, b1⟩ := unhide G1
  obtain ⟨g2, b2⟩ := unhide G2
  obtain ⟨g3, b3⟩ := unhide G3
  obtain ⟨g4, b4⟩ := unhide G4
  obtain ⟨hE, b5⟩ := unhide G5
  obtain ⟨o1, l1⟩ := unhide H1
  obtain ⟨o2, l2⟩ := unhide H2
  obtain ⟨f3, l3⟩ := unhide H3
  obtain ⟨f4, l4⟩ := unhide H4
  have z1 := b1.size
  have z2 := b2.size
  have z3 := b3.size
  have z4 := b4.size
  have a1 := o1.lt
  have a2 := o2.lt
  have a3 := f3.lt
  have a4 := f4.lt
  have a1' : ∀ b ∈ R1.blocks, b < X4.heap.size := fun b hb => by have := a1 b hb; omega
  have a2' : ∀ b ∈ R2.blocks, b < X4.heap.size := fun b hb => by have := a2 b hb; omega
  have a3' : ∀ b ∈ Q1.blocks, b < X4.heap.size := fun b hb => by have := a3 b hb; omega
  have p : ∀ {l : List Nat}, (∀ b ∈ l, b < X4.heap.size) → Dj [B5] l := fun {l} h => (Dj.of (S := X4.heap.size) h (fun x hx => by rw [List.mem_singleton.1 hx, hE]; exact Nat.le_refl _)).symm
  refine ⟨B5, R1, R2, Q1, Q2, rfl, ⟨(unhide LL).get 0 rfl, ?_, ?_, (f3.on b4).on b5, f4.on b5, Dj.of a1 g2, Dj.of a1 (fun b hb => by have := g3 b hb; omega), Dj.of a1 (fun b hb => by have := g4 b hb; omega), Dj.of a2 (fun b hb => by have := g3 b hb; omega), Dj.of a2 (fun b hb => by have := g4 b hb; omega), Dj.of a3 g4, p a1', p a2', p a3', p a4, (unhide LL).fr, by rw [hE]; omega, g1, fun b hb => by have := g2 b hb; omega, fun b hb => by have := g3 b hb; omega, fun b hb => by have := g4 b hb; omega⟩, l1, l2, l3, l4⟩
  · have c : ∀ b < X1.heap.size, X5.heap[b]? = X1.heap[b]? := fun b hb => by rw [b5.block b (by omega), b4.block b (by omega), b3.block b (by omega), b2.block b hb]
    exact o1.block (fun b hb => c b (a1 b hb))
  · have c : ∀ b < X2.heap.size, X5.heap[b]? = X2.heap[b]? := fun b hb => by rw [b5.block b (by omega), b4.block b (by omega), b3.block b hb]
    exact o2.block (fun b hb => c b (a2 b hb))
set_option maxRecDepth 100000 in
theorem asks8 {w0 : World} {P : Nat} {R0 R1 : RG} {Q0 Q1 : RF} (i : Int) (w : World) (hP : PS w0 w P R0 R1 Q0 Q1) (e : Q0.l = R0.l) : Calls Tryz.prog 8 #[pt P, .int .i64 i] w fun e w' => e = .returned (.bool true) ∧ Below w.heap.size w w' := by
  obtain ⟨s0, b0, e0, e2, v0, t0, he1, he2, c23, c24, c25, c26, c27, c28⟩ := ask_both R0 Q0 e (by have := hP.o0.len; omega) hP.sml i
  have HP := hide hP
  have HE := hide he1
  have HE2 := hide he2
  have C23 := hide (fun X (hX : Fr w X []) => (hP.fr1 hX).o0.is.elim fun n h => h.elim fun sz h => h.elim fun F h => c23 X n sz F h.1)
  have C24 := hide (fun X (hX : Fr w X []) => c24 X (hP.fr1 hX).f0)
  have C25 := hide (fun X (hX : Fr w X []) => (hP.fr1 hX).o0.is.elim fun n h => h.elim fun sz h => h.elim fun F h => c25 X n sz F h.1)
  have C26 := hide (fun X (hX : Fr w X []) => c26 X (hP.fr1 hX).f0)
  have C27 := hide (fun X (hX : Fr w X []) => (hP.fr1 hX).o0.is.elim fun n h => h.elim fun sz h => h.elim fun F h => c27 X n sz F h.1)
  have C28 := hide (fun X (hX : Fr w X []) => c28 X (hP.fr1 hX).f0)
  have LL := hide (Hq.nil w [])
  clear hP he1 he2 c23 c24 c25 c26 c27 c28 e
  go_enter Tryz.func8, Tryz.ntmps8
  go_wp2_with (first | go_skip | ((with_reducible show wpList _ _ _ _ _ _); first | ((refine rd (by rfl) (ex_indexA 27 2 1 0 und27 len27 idx27 rfl rfl rfl (by decide)) ?_); simp only [Act.put, List.setIfInBounds_toArray, List.set_cons_succ, List.set_cons_zero]) | ((refine rd (by rfl) (ex_indexA 29 2 1 0 und29 len29 idx29 rfl rfl rfl (by decide)) ?_); simp only [Act.put, List.setIfInBounds_toArray, List.set_cons_succ, List.set_cons_zero]) | ((refine rd (by rfl) (ex_load1 26 Tryz.isAgg26 rfl rfl (((unhide HP).fr1 (unhide LL).fr).hold) rfl) ?_); simp only [Act.put, List.setIfInBounds_toArray, List.set_cons_succ, List.set_cons_zero]) | ((refine rd (by rfl) (ex_load1 28 Tryz.isAgg28 rfl rfl (((unhide HP).fr1 (unhide LL).fr).hold) rfl) ?_); simp only [Act.put, List.setIfInBounds_toArray, List.set_cons_succ, List.set_cons_zero])))
  refine (unhide C23 _ (unhide LL).fr).mono ?_
  rintro e X1 ⟨rfl, hb⟩
  replace LL := hide ((unhide LL).on hb)
  clear hb
  go_wp2_with (first | go_skip | ((with_reducible show wpList _ _ _ _ _ _); first | ((refine rd (by rfl) (ex_indexA 27 2 1 0 und27 len27 idx27 rfl rfl rfl (by decide)) ?_); simp only [Act.put, List.setIfInBounds_toArray, List.set_cons_succ, List.set_cons_zero]) | ((refine rd (by rfl) (ex_indexA 29 2 1 0 und29 len29 idx29 rfl rfl rfl (by decide)) ?_); simp only [Act.put, List.setIfInBounds_toArray, List.set_cons_succ, List.set_cons_zero]) | ((refine rd (by rfl) (ex_load1 26 Tryz.isAgg26 rfl rfl (((unhide HP).fr1 (unhide LL).fr).hold) rfl) ?_); simp only [Act.put, List.setIfInBounds_toArray, List.set_cons_succ, List.set_cons_zero]) | ((refine rd (by rfl) (ex_load1 28 Tryz.isAgg28 rfl rfl (((unhide HP).fr1 (unhide LL).fr).hold) rfl) ?_); simp only [Act.put, List.setIfInBounds_toArray, List.set_cons_succ, List.set_cons_zero])))
  refine (unhide C24 _ (unhide LL).fr).mono ?_
  rintro e X2 ⟨rfl, hb⟩
  replace LL := hide ((unhide LL).on hb)
  clear hb
  go_wp2_with (first | go_skip | ((with_reducible show wpList _ _ _ _ _ _); first | ((refine rd (by rfl) (ex_indexA 27 2 1 0 und27 len27 idx27 rfl rfl rfl (by decide)) ?_); simp only [Act.put, List.setIfInBounds_toArray, List.set_cons_succ, List.set_cons_zero]) | ((refine rd (by rfl) (ex_indexA 29 2 1 0 und29 len29 idx29 rfl rfl rfl (by decide)) ?_); simp only [Act.put, List.setIfInBounds_toArray, List.set_cons_succ, List.set_cons_zero]) | ((refine rd (by rfl) (ex_load1 26 Tryz.isAgg26 rfl rfl (((unhide HP).fr1 (unhide LL).fr).hold) rfl) ?_); simp only [Act.put, List.setIfInBounds_toArray, List.set_cons_succ, List.set_cons_zero]) | ((refine rd (by rfl) (ex_load1 28 Tryz.isAgg28 rfl rfl (((unhide HP).fr1 (unhide LL).fr).hold) rfl) ?_); simp only [Act.put, List.setIfInBounds_toArray, List.set_cons_succ, List.set_cons_zero])))
  refine (unhide C25 _ (unhide LL).fr).mono ?_
  rintro e X3 ⟨rfl, hb⟩
  replace LL := hide ((unhide LL).on hb)
  clear hb
  go_wp2_with (first | go_skip | ((with_reducible show wpList _ _ _ _ _ _); first | ((refine alG 35 (zeroV.cs) (by rfl) rfl (fun w => by kernel_rfl) (Nat.succ_pos _) (unhide LL) ?_); intro X4 B4 hE4 L4 hb4; have hB4 := hide (Nat.le_trans (unhide LL).fr.size (Nat.le_of_eq hE4.symm)); replace LL := hide L4; clear L4 hb4 hE4; simp only [Act.put, List.setIfInBounds_toArray, List.set_cons_succ, List.set_cons_zero]) | ((refine st (vs := v0.cs) 0 35 (by rfl) rfl rfl rfl rfl (vcs_one _) (siz35) (unhide LL) rfl (by simp [cput, ycs_length, vcs_length, SY.cs, VV.cs]) (Or.inr (unhide hB4)) ?_); intro X5 L5 hf5 hs5; replace LL := hide L5; clear L5 hf5 hs5; simp only [Act.put, List.setIfInBounds_toArray, List.set_cons_succ, List.set_cons_zero]) | ((refine rd (by rfl) (ex_indexA 27 2 1 0 und27 len27 idx27 rfl rfl rfl (by decide)) ?_); simp only [Act.put, List.setIfInBounds_toArray, List.set_cons_succ, List.set_cons_zero]) | ((refine rd (by rfl) (ex_indexA 29 2 1 0 und29 len29 idx29 rfl rfl rfl (by decide)) ?_); simp only [Act.put, List.setIfInBounds_toArray, List.set_cons_succ, List.set_cons_zero]) | ((refine rd (by rfl) (ex_load1 26 Tryz.isAgg26 rfl rfl (((unhide HP).fr1 (unhide LL).fr).hold) rfl) ?_); simp only [Act.put, List.setIfInBounds_toArray, List.set_cons_succ, List.set_cons_zero]) | ((refine rd (by rfl) (ex_load1 28 Tryz.isAgg28 rfl rfl (((unhide HP).fr1 (unhide LL).fr).hold) rfl) ?_); simp only [Act.put, List.setIfInBounds_toArray, List.set_cons_succ, List.set_cons_zero])))
  refine (unhide C26 _ (unhide LL).fr).mono ?_
  rintro e X6 ⟨rfl, hb⟩
  replace LL := hide ((unhide LL).on hb)
  clear hb
  replace LL : Hid (Hq w X6 [] [(B4, v0.cs)]) := LL
  go_wp2_with (first | go_skip | ((with_reducible show wpList _ _ _ _ _ _); first | ((refine alG 35 (zeroV.cs) (by rfl) rfl (fun w => by kernel_rfl) (Nat.succ_pos _) (unhide LL) ?_); intro X7 B7 hE7 L7 hb7; have hB7 := hide (Nat.le_trans (unhide LL).fr.size (Nat.le_of_eq hE7.symm)); replace LL := hide L7; clear L7 hb7 hE7; simp only [Act.put, List.setIfInBounds_toArray, List.set_cons_succ, List.set_cons_zero]) | ((refine st (vs := v0.cs) 1 35 (by rfl) rfl rfl rfl rfl (vcs_one _) (siz35) (unhide LL) rfl (by simp [cput, ycs_length, vcs_length, SY.cs, VV.cs]) (Or.inr (unhide hB7)) ?_); intro X8 L8 hf8 hs8; replace LL := hide L8; clear L8 hf8 hs8; simp only [Act.put, List.setIfInBounds_toArray, List.set_cons_succ, List.set_cons_zero]) | ((refine rd (by rfl) (ex_indexA 27 2 1 0 und27 len27 idx27 rfl rfl rfl (by decide)) ?_); simp only [Act.put, List.setIfInBounds_toArray, List.set_cons_succ, List.set_cons_zero]) | ((refine rd (by rfl) (ex_indexA 29 2 1 0 und29 len29 idx29 rfl rfl rfl (by decide)) ?_); simp only [Act.put, List.setIfInBounds_toArray, List.set_cons_succ, List.set_cons_zero]) | ((refine rd (by rfl) (ex_load1 26 Tryz.isAgg26 rfl rfl (((unhide HP).fr1 (unhide LL).fr).hold) rfl) ?_); simp only [Act.put, List.setIfInBounds_toArray, List.set_cons_succ, List.set_cons_zero]) | ((refine rd (by rfl) (ex_load1 28 Tryz.isAgg28 rfl rfl (((unhide HP).fr1 (unhide LL).fr).hold) rfl) ?_); simp only [Act.put, List.setIfInBounds_toArray, List.set_cons_succ, List.set_cons_zero])))
  refine (unhide C27 _ (unhide LL).fr).mono ?_
  rintro e X10 ⟨rfl, hb⟩
  replace LL := hide ((unhide LL).on hb)
  clear hb
  replace LL : Hid (Hq w X10 [] [(B4, v0.cs), (B7, v0.cs)]) := LL
  go_wp2_with (first | go_skip | ((with_reducible show wpList _ _ _ _ _ _); first | ((refine rd (by rfl) (ex_indexA 27 2 1 0 und27 len27 idx27 rfl rfl rfl (by decide)) ?_); simp only [Act.put, List.setIfInBounds_toArray, List.set_cons_succ, List.set_cons_zero]) | ((refine rd (by rfl) (ex_indexA 29 2 1 0 und29 len29 idx29 rfl rfl rfl (by decide)) ?_); simp only [Act.put, List.setIfInBounds_toArray, List.set_cons_succ, List.set_cons_zero]) | ((refine rd (by rfl) (ex_load1 26 Tryz.isAgg26 rfl rfl (((unhide HP).fr1 (unhide LL).fr).hold) rfl) ?_); simp only [Act.put, List.setIfInBounds_toArray, List.set_cons_succ, List.set_cons_zero]) | ((refine rd (by rfl) (ex_load1 28 Tryz.isAgg28 rfl rfl (((unhide HP).fr1 (unhide LL).fr).hold) rfl) ?_); simp only [Act.put, List.setIfInBounds_toArray, List.set_cons_succ, List.set_cons_zero])))
  refine (unhide C28 _ (unhide LL).fr).mono ?_
  rintro e X11 ⟨rfl, hb⟩
  replace LL := hide ((unhide LL).on hb)
  clear hb
  go_wp2_with fail
  refine (num16 e0 (unhide HE) _).mono ?_
  rintro e X9 ⟨rfl, h9⟩
  rw [h9]
  clear h9 X9
  go_wp2_with (first | go_skip | ((with_reducible show wpList _ _ _ _ _ _); first | ((refine rd (by rfl) (ex_loadN (vs := v0.cs) 35 5 row35 siz35 rfl rfl ((unhide LL).get 0 rfl) rfl rfl) ?_); simp only [Act.put, List.setIfInBounds_toArray, List.set_cons_succ, List.set_cons_zero]) | ((refine rd (by rfl) (ex_loadN (vs := v0.cs) 35 5 row35 siz35 rfl rfl ((unhide LL).get 1 rfl) rfl rfl) ?_); simp only [Act.put, List.setIfInBounds_toArray, List.set_cons_succ, List.set_cons_zero])))
  refine (eq_any v0 v0 _).mono ?_
  rintro e X12 ⟨rfl, hb⟩
  rw [eqB_self]
  replace LL := hide ((unhide LL).on hb)
  clear hb
  go_wp2_with fail
  refine (num16 e0 (unhide HE) _).mono ?_
  rintro e X9 ⟨rfl, h9⟩
  rw [h9]
  clear h9 X9
  go_wp2_with fail
  refine (num16 e2 (unhide HE2) _).mono ?_
  rintro e X9 ⟨rfl, h9⟩
  rw [h9]
  clear h9 X9
  go_wp2
  go_ret
  exact ⟨by simp, (unhide LL).fr.below⟩
end Go.Proofs.YtkpfikeggleenaaGreatDoor
