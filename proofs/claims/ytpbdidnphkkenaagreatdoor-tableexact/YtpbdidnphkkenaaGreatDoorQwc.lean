import Derived.Test.YtpbdidnphkkenaaGreatDoorQwb

/-! Og -/
namespace Go.Proofs.YtpbdidnphkkenaaGreatDoor
open Go Go.Proofs Go.Maps Go.RowKit
set_option linter.unusedSimpArgs false
set_option linter.unusedVariables false
set_option maxHeartbeats 1000000
/-- The document's table while a list is made of its own. -/
structure DQ (R : RT) (g cap : Nat) (w W : World) : Prop where
  tab : Holds W R.t [.slice (some ⟨g, 0, none⟩) R.es.length cap, .int .i64 R.nx]
  row : Holds W g (flatE R.es)
  fr : Fr w W []
  lt : R.t < w.heap.size ∧ g < w.heap.size
theorem DQ.step {R : RT} {g cap : Nat} {w W X : World} {E : List Nat} (h : DQ R g cap w W) (hf : Fr W X E) (hE : ∀ b ∈ E, w.heap.size ≤ b) : DQ R g cap w X :=
  ⟨h.tab.block (hf.block _ (Nat.lt_of_lt_of_le h.lt.1 h.fr.size) (fun hm => by have := hE _ hm; have := h.lt.1; omega)), h.row.block (hf.block _ (Nat.lt_of_lt_of_le h.lt.2 h.fr.size) (fun hm => by have := hE _ hm; have := h.lt.2; omega)), h.fr.trans hf (fun b hb => .inr (hE b hb)), h.lt⟩
theorem DQ.own {R : RT} {g cap : Nat} {w W X : World} {v : Value} {n : Nat} {xs : List Value} (h : DQ R g cap w W) (ho : W.ownsRow w.heap.size 82 21 v n xs) (hg : W.grownBy X v.ownBlock) : DQ R g cap w X :=
  h.step (Fr.grown hg) (fun b hb => (World.ownsRow.lt ho b (by simpa using hb)).1)
theorem DQ.head {R : RT} {g cap : Nat} {w W : World} (h : DQ R g cap w W) {a b : List EE} (he : R.es = a ++ b) : W.rangeAt g 0 (flatE a) := by
  have := h.row.2
  rw [he] at this
  unfold flatE at *
  rw [List.flatMap_append] at this
  exact range_left this
theorem DQ.tail {R : RT} {g cap : Nat} {w W : World} (h : DQ R g cap w W) {a b : List EE} {x : EE} (he : R.es = a ++ x :: b) {off : Nat} (ho : b.length ≠ 0 → off = (a.length + 1) * 21) : W.rangeAt g off (flatE b) := by
  cases b with
  | nil =>
    intro j v hv
    simp [flatE] at hv
  | cons y b =>
    have e := ho (by simp)
    have h1 := h.row.2
    have e2 : flatE (a ++ x :: y :: b) = flatE (a ++ [x]) ++ flatE (y :: b) := by
      unfold flatE
      rw [← List.flatMap_append]
      simp
    rw [he, e2] at h1
    have h2 := range_right h1
    have e3 : 0 + (flatE (a ++ [x])).length = off := by
      rw [flatE_len, e]
      simp
    rw [e3] at h2
    exact h2
/-- The document's table with another list of its own. -/
theorem DQ.fin {R : RT} {g cap : Nat} {w W : World} (h : DQ R g cap w W) {v : Value} {l : List EE} {A : Option Addr} {m c : Nat} (hv : v = .slice A m c) (hm : m = l.length) (ho : W.ownsRow w.heap.size 82 21 v m (flatE l)) : ∃ R', RT.To R R' w (W.setCells R.t 0 [v]) ∧ R'.es = l := by
  have hp := h.tab.put 0 [v] (by simp)
  have hb : ∀ b, v.ownBlock = some b → w.heap.size ≤ b := fun b hb => (World.ownsRow.lt ho b hb).1
  refine ⟨⟨R.t, v, l, R.nx⟩, ⟨⟨hp, ?_, ?_⟩, rfl, rfl, ?_, ?_⟩, rfl⟩
  · rw [← hm]
    exact own_mono (own_block ho (fun b hb' => heap_setCells _ _ _ _ _ (by have := hb b hb'; have := h.lt.1; omega))) (Nat.zero_le _)
  · unfold RT.blocks
    cases hv2 : v.ownBlock with
    | none => simp
    | some b =>
      have := hb b hv2
      have := h.lt.1
      simp
      omega
  · have hf : Fr w W R.blocks := h.fr.mono (fun b hb => by cases hb)
    exact hf.trans (Fr.setCells W R.t 0 [v]) (fun b hb => .inl (by obtain rfl : b = R.t := (by simpa using hb); simp [RT.blocks]))
  · intro b hb'
    unfold RT.blocks at hb' ⊢
    simp only [List.mem_cons] at hb' ⊢
    rcases hb' with h1 | h1
    · exact .inl (.inl h1)
    · exact .inr (hb b (by simpa using h1))
set_option maxRecDepth 100000 in
theorem refDelete_some (R : RT) (k : KK) (w : World) (hR : R.Is w) (hl : R.es.length ≤ 100000) (a b : List EE) (x : EE) (he : R.es = a ++ x :: b) (hf : R.find k = some a.length) : Calls Tryz.prog 15 #[.pointer (some ⟨R.t, 0, none⟩), k.agg] w fun e w' => e = .returned (.bool true) ∧ ∃ R', RT.To R R' w w' ∧ R'.es = a ++ b := by
  have HR := hide (hR.on ((Below.refl _ _).alloc (Nat.le_refl _) (Obj.cells k.cs.toArray 33)))
  have LL := hide ((Hq.nil w R.blocks).new k.cs 33 (Nat.succ_pos _))
  have HC := hide (fun X hX => find36 R k X hX hl)
  have HLT := hide hR.lt
  obtain ⟨g, cap, hlv, hcap⟩ : ∃ g cap, R.lv = .slice (some ⟨g, 0, none⟩) R.es.length cap ∧ R.es.length ≤ cap := by
    rcases hR.own.2 with ⟨h1, h2⟩ | ⟨g, cap, cur, h1, h2, h3, h4, -⟩
    · rw [he] at h2; simp at h2
    · exact ⟨g, cap, h1, h4⟩
  have hlen : R.es.length = a.length + (b.length + 1) := by rw [he]; simp
  obtain ⟨i, hia⟩ : ∃ i, i = a.length := ⟨_, rfl⟩
  obtain ⟨off, hoff, hsl⟩ := slice46_l g R.es.length cap (i + 1) (by omega) (by omega) w
  have HSL := hide hsl
  have HSH := hide (fun w => slice46_h g R.es.length cap i (by omega) (by omega) w)
  have HD : Hid (∀ X, R.Is X → Fr w X [] → DQ R g cap w X) := hide (fun X hX hf => ⟨by have := hX.tab; unfold RT.cs at this; rw [hlv] at this; exact this, own_holds (hlv ▸ hX.own), hf, hR.lt R.t (by simp [RT.blocks]), hR.lt g (by unfold RT.blocks; rw [hlv]; simp [Value.ownBlock])⟩)
  have hn1 : i < 1000000 := by omega
  have H8 : Hid (∀ W, DQ R g cap w W → W.rangeAt g 0 (flatE a)) := hide (fun W hW => hW.head he)
  have H16 : Hid (∀ W, DQ R g cap w W → W.rangeAt g off (flatE b)) := hide (fun W hW => hW.tail he (fun hb => by rw [← hia]; exact hoff (by omega)))
  have HL8 : Hid ((flatE a).length = i * 21 ∧ 0 + i ≤ 1000000) := hide ⟨by rw [flatE_len, hia], by omega⟩
  have HL16 : Hid ((flatE b).length = (R.es.length - (i + 1)) * 21 ∧ (0 + i) + (R.es.length - (i + 1)) ≤ 1000000 ∧ (0 + i) + (R.es.length - (i + 1)) = (a ++ b).length) := hide ⟨by rw [flatE_len]; congr 1; omega, by omega, by rw [List.length_append]; omega⟩
  have HFL : Hid (([] ++ flatE a) ++ flatE b = flatE (a ++ b)) := hide (by unfold flatE; rw [List.flatMap_append]; simp)
  rw [hf, ← hia] at HC
  rw [show fI (some i) = (i : Int) from rfl] at HC
  have hiz : ¬ (i : Int) < 0 := by omega
  clear hf hlv he hlen hia hoff hsl hcap hl
  clear hR
  rw [show k.agg = .agg k.cs.toArray from rfl]
  go_enter Tryz.func15, Tryz.ntmps15
  go_wp2_with (first | go_skip | ((refine rd (by rfl) (ex_loadN (vs := k.cs) 33 2 row33x siz33 rfl rfl ((unhide LL).get 0 rfl) rfl rfl) ?_); simp only [Act.put, List.setIfInBounds_toArray, List.set_cons_succ, List.set_cons_zero]))
  refine ((unhide HC) _ (unhide HR)).mono ?_
  rintro _ w2 ⟨rfl, hb⟩
  have HDD := hide ((unhide HD) w2 ((unhide HR).on hb) (((Fr.of_below ((Below.refl w.heap.size w).alloc (Nat.le_refl _) (Obj.cells k.cs.toArray 33)) []).on hb)))
  clear hb HR LL HD HC
  go_wp2
  refine wp_region_held_drew (P := Tryz.prog) (S := fun _ => True) (by kernel_rfl) trivial (fun hS0 => ?_)
  refine gsem 0 (some 11) (.pointer (some ⟨R.t, 0, none⟩)) rfl (by kernel_rfl) (by kernel_rfl) (by kernel_rfl) (fun _ _ _ h => h) (by kernel_rfl) (by kernel_rfl) (fun _ _ => by kernel_rfl) hS0 ?_
  simp only [Act.put, List.setIfInBounds_toArray, List.set_cons_succ, List.set_cons_zero]
  refine gsem 2 (some 13) (.pointer (some ⟨R.t, 0, none⟩)) rfl (by kernel_rfl) (by kernel_rfl) (by kernel_rfl) (fun _ _ _ h => h) (by kernel_rfl) (by kernel_rfl) (fun _ _ => by kernel_rfl) hS0 ?_
  simp only [Act.put, List.setIfInBounds_toArray, List.set_cons_succ, List.set_cons_zero]
  refine gsem 3 (some 14) (.pointer (some ⟨R.t, 0, none⟩)) rfl (by kernel_rfl) (by kernel_rfl) (by kernel_rfl) (fun _ _ _ h => h) (by kernel_rfl) (by kernel_rfl) (fun _ _ => by kernel_rfl) hS0 ?_
  simp only [Act.put, List.setIfInBounds_toArray, List.set_cons_succ, List.set_cons_zero]
  refine gsem 4 (some 15) (.pointer (some ⟨R.t, 0, none⟩)) rfl (by kernel_rfl) (by kernel_rfl) (by kernel_rfl) (fun _ _ _ h => h) (by kernel_rfl) (by kernel_rfl) (fun _ _ => by kernel_rfl) hS0 ?_
  simp only [Act.put, List.setIfInBounds_toArray, List.set_cons_succ, List.set_cons_zero]
  refine gsem 6 (some 17) (.int .i64 (i : Nat)) rfl (by kernel_rfl) (by kernel_rfl) (by kernel_rfl) (fun _ _ _ h => h) (by kernel_rfl) (by kernel_rfl) (fun _ _ => by kernel_rfl) hS0 ?_
  simp only [Act.put, List.setIfInBounds_toArray, List.set_cons_succ, List.set_cons_zero]
  refine gsem 9 (some 20) (.pointer (some ⟨R.t, 0, none⟩)) rfl (by kernel_rfl) (by kernel_rfl) (by kernel_rfl) (fun _ _ _ h => h) (by kernel_rfl) (by kernel_rfl) (fun _ _ => by kernel_rfl) hS0 ?_
  simp only [Act.put, List.setIfInBounds_toArray, List.set_cons_succ, List.set_cons_zero]
  refine gsem 10 (some 21) (.pointer (some ⟨R.t, 0, none⟩)) rfl (by kernel_rfl) (by kernel_rfl) (by kernel_rfl) (fun _ _ _ h => h) (by kernel_rfl) (by kernel_rfl) (fun _ _ => by kernel_rfl) hS0 ?_
  simp only [Act.put, List.setIfInBounds_toArray, List.set_cons_succ, List.set_cons_zero]
  refine gsem 11 (some 22) (.pointer (some ⟨R.t, 0, none⟩)) rfl (by kernel_rfl) (by kernel_rfl) (by kernel_rfl) (fun _ _ _ h => h) (by kernel_rfl) (by kernel_rfl) (fun _ _ => by kernel_rfl) hS0 ?_
  simp only [Act.put, List.setIfInBounds_toArray, List.set_cons_succ, List.set_cons_zero]
  refine gsem 13 (some 24) (.int .i64 (i : Nat)) rfl (by kernel_rfl) (by kernel_rfl) (by kernel_rfl) (fun _ _ _ h => h) (by kernel_rfl) (by kernel_rfl) (fun _ _ => by kernel_rfl) hS0 ?_
  simp only [Act.put, List.setIfInBounds_toArray, List.set_cons_succ, List.set_cons_zero]
  refine gsem 14 (some 25) (.int .i64 ((i + 1 : Nat) : Int)) rfl (by kernel_rfl) (by kernel_rfl) (by kernel_rfl) (fun _ _ _ h => h) (by kernel_rfl) (by kernel_rfl) (fun X hX => ex_add1 rfl rfl rfl hn1) hS0 ?_
  simp only [Act.put, List.setIfInBounds_toArray, List.set_cons_succ, List.set_cons_zero]
  have hD : DQ R g cap w w2.drew := (unhide HDD).step (Fr.refl w2 []).drew (fun b hb => by cases hb)
  clear HDD
  refine wpAnyH_ready (rs := [1, 5, 12]) (by kernel_rfl) (by simp) (gval 1 (some 12) rfl (by kernel_rfl) (by kernel_rfl) (ex_none46 rfl) trivial ?_ (gval 5 (some 16) rfl (by kernel_rfl) (by kernel_rfl) (ex_load1 46 Tryz.isAgg46 rfl rfl hD.tab rfl) trivial ?_ (gval 12 (some 23) rfl (by kernel_rfl) (by kernel_rfl) (ex_load1 46 Tryz.isAgg46 rfl rfl hD.tab rfl) trivial ?_ AllReadyH.nil)))
  · have h12 := own_none w2.drew w.heap.size 82 21 hD.fr.size
    have hD := hD.step (Fr.of_below ((Below.refl _ _).alloc (Nat.le_refl _) (Obj.cells #[] 82)) []) (fun b hb => by cases hb)
    generalize (w2.drew).alloc (Obj.cells #[] 82) = x1 at *
    generalize (w2.drew).heap.size = B at *
    simp only [Act.put, List.setIfInBounds_toArray, List.set_cons_succ, List.set_cons_zero]
    refine wpAnyH_ready (rs := [5, 12]) (by kernel_rfl) (by simp) (gval 5 (some 16) rfl (by kernel_rfl) (by kernel_rfl) (ex_load1 46 Tryz.isAgg46 rfl rfl hD.tab rfl) trivial ?_ (gval 12 (some 23) rfl (by kernel_rfl) (by kernel_rfl) (ex_load1 46 Tryz.isAgg46 rfl rfl hD.tab rfl) trivial ?_ AllReadyH.nil))
    · simp only [Act.put, List.setIfInBounds_toArray, List.set_cons_succ, List.set_cons_zero]
      refine gsem 7 (some 18) (.slice (some ⟨g, 0, none⟩) i cap) rfl (by kernel_rfl) (by kernel_rfl) (by kernel_rfl) (fun _ _ _ h => h) (by kernel_rfl) (by kernel_rfl) (fun X hX => ex_slice46h rfl rfl rfl ((unhide HSH) X)) trivial ?_
      simp only [Act.put, List.setIfInBounds_toArray, List.set_cons_succ, List.set_cons_zero]
      refine wpAnyH_ready (rs := [8, 12]) (by kernel_rfl) (by simp) (gappG 8 (some 19) (v := .slice (some ⟨B, 0, none⟩) 0 0) (B := g) (off := 0) (m := i) (c := cap) (news := flatE a) rfl (by kernel_rfl) (by kernel_rfl) rfl rfl rfl Tryz.underlying46 info82w rfl (by decide) h12 ((unhide H8) _ hD) (unhide HL8).1 (oneE a) (unhide HL8).2 (by decide) hD.fr.size (fun _ _ => trivial) ?_ (gval 12 (some 23) rfl (by kernel_rfl) (by kernel_rfl) (ex_load1 46 Tryz.isAgg46 rfl rfl hD.tab rfl) trivial ?_ AllReadyH.nil))
      · intro A8 c8 x8 h19 hg8 hf8
        have hD := hD.own h12 hg8
        clear hg8 hf8 h12
        simp only [Act.put, List.setIfInBounds_toArray, List.set_cons_succ, List.set_cons_zero]
        refine wpAnyH_ready (rs := [12]) (by kernel_rfl) (by simp) (gval 12 (some 23) rfl (by kernel_rfl) (by kernel_rfl) (ex_load1 46 Tryz.isAgg46 rfl rfl hD.tab rfl) trivial ?_ AllReadyH.nil)
        simp only [Act.put, List.setIfInBounds_toArray, List.set_cons_succ, List.set_cons_zero]
        refine gsem 15 (some 26) (.slice (some ⟨g, off, none⟩) (R.es.length - (i + 1)) (cap - (i + 1))) rfl (by kernel_rfl) (by kernel_rfl) (by kernel_rfl) (fun _ _ _ h => h) (by kernel_rfl) (by kernel_rfl) (fun X hX => ex_slice46l rfl rfl rfl ((unhide HSL) X)) trivial ?_
        simp only [Act.put, List.setIfInBounds_toArray, List.set_cons_succ, List.set_cons_zero]
        refine wpAnyH_ready (rs := [16]) (by kernel_rfl) (by simp) (gappG 16 (some 27) (v := .slice A8 (0 + i) c8) (B := g) (off := off) (m := R.es.length - (i + 1)) (c := cap - (i + 1)) (news := flatE b) rfl (by kernel_rfl) (by kernel_rfl) rfl rfl rfl Tryz.underlying46 info82w rfl (by decide) h19 ((unhide H16) _ hD) (unhide HL16).1 (oneE b) (unhide HL16).2.1 (by decide) hD.fr.size (fun _ _ => trivial) ?_ AllReadyH.nil)
        intro A9 c9 x9 h27 hg9 hf9
        have hD := hD.own h19 hg9
        clear hg9 hf9 h19
        simp only [Act.put, List.setIfInBounds_toArray, List.set_cons_succ, List.set_cons_zero]
        refine gsem 17 (some 28) (.pointer (some ⟨R.t, 0, none⟩)) rfl (by kernel_rfl) (by kernel_rfl) (by kernel_rfl) (fun _ _ _ h => h) (by kernel_rfl) (by kernel_rfl) (fun _ _ => by kernel_rfl) trivial ?_
        simp only [Act.put, List.setIfInBounds_toArray, List.set_cons_succ, List.set_cons_zero]
        refine gsem 18 (some 29) (.pointer (some ⟨R.t, 0, none⟩)) rfl (by kernel_rfl) (by kernel_rfl) (by kernel_rfl) (fun _ _ _ h => h) (by kernel_rfl) (by kernel_rfl) (fun _ _ => by kernel_rfl) trivial ?_
        simp only [Act.put, List.setIfInBounds_toArray, List.set_cons_succ, List.set_cons_zero]
        refine wpAnyH_ready (rs := [19]) (by kernel_rfl) (by simp) (gskp 19 none rfl (by kernel_rfl) (by kernel_rfl) (ex_store (t := 46) (vs := [.slice A9 (0 + i + (R.es.length - (i + 1))) c9]) rfl rfl rfl rfl (by simp [Value.oneCell']) siz46 hD.tab (by simp)) trivial ?_ AllReadyH.nil)
        simp only [Act.put, List.setIfInBounds_toArray, List.set_cons_succ, List.set_cons_zero]
        refine wpAnyH_done (by kernel_rfl) ?_ _
        try simp only [Act.put, List.setIfInBounds_toArray, List.set_cons_succ, List.set_cons_zero]
        have HF := hide (hD.fin rfl (unhide HL16).2.2 (by rw [← unhide HFL]; exact h27))
        clear hD h27
        generalize World.setCells _ _ _ _ = x10 at *
        go_wp2
        go_ret
        exact ⟨rfl, unhide HF⟩
      · simp only [Act.put, List.setIfInBounds_toArray, List.set_cons_succ, List.set_cons_zero]
        refine gsem 15 (some 26) (.slice (some ⟨g, off, none⟩) (R.es.length - (i + 1)) (cap - (i + 1))) rfl (by kernel_rfl) (by kernel_rfl) (by kernel_rfl) (fun _ _ _ h => h) (by kernel_rfl) (by kernel_rfl) (fun X hX => ex_slice46l rfl rfl rfl ((unhide HSL) X)) trivial ?_
        simp only [Act.put, List.setIfInBounds_toArray, List.set_cons_succ, List.set_cons_zero]
        refine wpAnyH_ready (rs := [8]) (by kernel_rfl) (by simp) (gappG 8 (some 19) (v := .slice (some ⟨B, 0, none⟩) 0 0) (B := g) (off := 0) (m := i) (c := cap) (news := flatE a) rfl (by kernel_rfl) (by kernel_rfl) rfl rfl rfl Tryz.underlying46 info82w rfl (by decide) h12 ((unhide H8) _ hD) (unhide HL8).1 (oneE a) (unhide HL8).2 (by decide) hD.fr.size (fun _ _ => trivial) ?_ AllReadyH.nil)
        intro A8 c8 x8 h19 hg8 hf8
        have hD := hD.own h12 hg8
        clear hg8 hf8 h12
        simp only [Act.put, List.setIfInBounds_toArray, List.set_cons_succ, List.set_cons_zero]
        refine wpAnyH_ready (rs := [16]) (by kernel_rfl) (by simp) (gappG 16 (some 27) (v := .slice A8 (0 + i) c8) (B := g) (off := off) (m := R.es.length - (i + 1)) (c := cap - (i + 1)) (news := flatE b) rfl (by kernel_rfl) (by kernel_rfl) rfl rfl rfl Tryz.underlying46 info82w rfl (by decide) h19 ((unhide H16) _ hD) (unhide HL16).1 (oneE b) (unhide HL16).2.1 (by decide) hD.fr.size (fun _ _ => trivial) ?_ AllReadyH.nil)
        intro A9 c9 x9 h27 hg9 hf9
        have hD := hD.own h19 hg9
        clear hg9 hf9 h19
        simp only [Act.put, List.setIfInBounds_toArray, List.set_cons_succ, List.set_cons_zero]
        refine gsem 17 (some 28) (.pointer (some ⟨R.t, 0, none⟩)) rfl (by kernel_rfl) (by kernel_rfl) (by kernel_rfl) (fun _ _ _ h => h) (by kernel_rfl) (by kernel_rfl) (fun _ _ => by kernel_rfl) trivial ?_
        simp only [Act.put, List.setIfInBounds_toArray, List.set_cons_succ, List.set_cons_zero]
        refine gsem 18 (some 29) (.pointer (some ⟨R.t, 0, none⟩)) rfl (by kernel_rfl) (by kernel_rfl) (by kernel_rfl) (fun _ _ _ h => h) (by kernel_rfl) (by kernel_rfl) (fun _ _ => by kernel_rfl) trivial ?_
        simp only [Act.put, List.setIfInBounds_toArray, List.set_cons_succ, List.set_cons_zero]
        refine wpAnyH_ready (rs := [19]) (by kernel_rfl) (by simp) (gskp 19 none rfl (by kernel_rfl) (by kernel_rfl) (ex_store (t := 46) (vs := [.slice A9 (0 + i + (R.es.length - (i + 1))) c9]) rfl rfl rfl rfl (by simp [Value.oneCell']) siz46 hD.tab (by simp)) trivial ?_ AllReadyH.nil)
        simp only [Act.put, List.setIfInBounds_toArray, List.set_cons_succ, List.set_cons_zero]
        refine wpAnyH_done (by kernel_rfl) ?_ _
        try simp only [Act.put, List.setIfInBounds_toArray, List.set_cons_succ, List.set_cons_zero]
        have HF := hide (hD.fin rfl (unhide HL16).2.2 (by rw [← unhide HFL]; exact h27))
        clear hD h27
        generalize World.setCells _ _ _ _ = x10 at *
        go_wp2
        go_ret
        exact ⟨rfl, unhide HF⟩
    · simp only [Act.put, List.setIfInBounds_toArray, List.set_cons_succ, List.set_cons_zero]
      refine gsem 15 (some 26) (.slice (some ⟨g, off, none⟩) (R.es.length - (i + 1)) (cap - (i + 1))) rfl (by kernel_rfl) (by kernel_rfl) (by kernel_rfl) (fun _ _ _ h => h) (by kernel_rfl) (by kernel_rfl) (fun X hX => ex_slice46l rfl rfl rfl ((unhide HSL) X)) trivial ?_
      simp only [Act.put, List.setIfInBounds_toArray, List.set_cons_succ, List.set_cons_zero]
      refine wpAnyH_ready (rs := [5]) (by kernel_rfl) (by simp) (gval 5 (some 16) rfl (by kernel_rfl) (by kernel_rfl) (ex_load1 46 Tryz.isAgg46 rfl rfl hD.tab rfl) trivial ?_ AllReadyH.nil)
      simp only [Act.put, List.setIfInBounds_toArray, List.set_cons_succ, List.set_cons_zero]
      refine gsem 7 (some 18) (.slice (some ⟨g, 0, none⟩) i cap) rfl (by kernel_rfl) (by kernel_rfl) (by kernel_rfl) (fun _ _ _ h => h) (by kernel_rfl) (by kernel_rfl) (fun X hX => ex_slice46h rfl rfl rfl ((unhide HSH) X)) trivial ?_
      simp only [Act.put, List.setIfInBounds_toArray, List.set_cons_succ, List.set_cons_zero]
      refine wpAnyH_ready (rs := [8]) (by kernel_rfl) (by simp) (gappG 8 (some 19) (v := .slice (some ⟨B, 0, none⟩) 0 0) (B := g) (off := 0) (m := i) (c := cap) (news := flatE a) rfl (by kernel_rfl) (by kernel_rfl) rfl rfl rfl Tryz.underlying46 info82w rfl (by decide) h12 ((unhide H8) _ hD) (unhide HL8).1 (oneE a) (unhide HL8).2 (by decide) hD.fr.size (fun _ _ => trivial) ?_ AllReadyH.nil)
      intro A8 c8 x8 h19 hg8 hf8
      have hD := hD.own h12 hg8
      clear hg8 hf8 h12
      simp only [Act.put, List.setIfInBounds_toArray, List.set_cons_succ, List.set_cons_zero]
      refine wpAnyH_ready (rs := [16]) (by kernel_rfl) (by simp) (gappG 16 (some 27) (v := .slice A8 (0 + i) c8) (B := g) (off := off) (m := R.es.length - (i + 1)) (c := cap - (i + 1)) (news := flatE b) rfl (by kernel_rfl) (by kernel_rfl) rfl rfl rfl Tryz.underlying46 info82w rfl (by decide) h19 ((unhide H16) _ hD) (unhide HL16).1 (oneE b) (unhide HL16).2.1 (by decide) hD.fr.size (fun _ _ => trivial) ?_ AllReadyH.nil)
      intro A9 c9 x9 h27 hg9 hf9
      have hD := hD.own h19 hg9
      clear hg9 hf9 h19
      simp only [Act.put, List.setIfInBounds_toArray, List.set_cons_succ, List.set_cons_zero]
      refine gsem 17 (some 28) (.pointer (some ⟨R.t, 0, none⟩)) rfl (by kernel_rfl) (by kernel_rfl) (by kernel_rfl) (fun _ _ _ h => h) (by kernel_rfl) (by kernel_rfl) (fun _ _ => by kernel_rfl) trivial ?_
      simp only [Act.put, List.setIfInBounds_toArray, List.set_cons_succ, List.set_cons_zero]
      refine gsem 18 (some 29) (.pointer (some ⟨R.t, 0, none⟩)) rfl (by kernel_rfl) (by kernel_rfl) (by kernel_rfl) (fun _ _ _ h => h) (by kernel_rfl) (by kernel_rfl) (fun _ _ => by kernel_rfl) trivial ?_
      simp only [Act.put, List.setIfInBounds_toArray, List.set_cons_succ, List.set_cons_zero]
      refine wpAnyH_ready (rs := [19]) (by kernel_rfl) (by simp) (gskp 19 none rfl (by kernel_rfl) (by kernel_rfl) (ex_store (t := 46) (vs := [.slice A9 (0 + i + (R.es.length - (i + 1))) c9]) rfl rfl rfl rfl (by simp [Value.oneCell']) siz46 hD.tab (by simp)) trivial ?_ AllReadyH.nil)
      simp only [Act.put, List.setIfInBounds_toArray, List.set_cons_succ, List.set_cons_zero]
      refine wpAnyH_done (by kernel_rfl) ?_ _
      try simp only [Act.put, List.setIfInBounds_toArray, List.set_cons_succ, List.set_cons_zero]
      have HF := hide (hD.fin rfl (unhide HL16).2.2 (by rw [← unhide HFL]; exact h27))
      clear hD h27
      generalize World.setCells _ _ _ _ = x10 at *
      go_wp2
      go_ret
      exact ⟨rfl, unhide HF⟩
  · simp only [Act.put, List.setIfInBounds_toArray, List.set_cons_succ, List.set_cons_zero]
    refine gsem 7 (some 18) (.slice (some ⟨g, 0, none⟩) i cap) rfl (by kernel_rfl) (by kernel_rfl) (by kernel_rfl) (fun _ _ _ h => h) (by kernel_rfl) (by kernel_rfl) (fun X hX => ex_slice46h rfl rfl rfl ((unhide HSH) X)) trivial ?_
    simp only [Act.put, List.setIfInBounds_toArray, List.set_cons_succ, List.set_cons_zero]
    refine wpAnyH_ready (rs := [1, 12]) (by kernel_rfl) (by simp) (gval 1 (some 12) rfl (by kernel_rfl) (by kernel_rfl) (ex_none46 rfl) trivial ?_ (gval 12 (some 23) rfl (by kernel_rfl) (by kernel_rfl) (ex_load1 46 Tryz.isAgg46 rfl rfl hD.tab rfl) trivial ?_ AllReadyH.nil))
    · have h12 := own_none w2.drew w.heap.size 82 21 hD.fr.size
      have hD := hD.step (Fr.of_below ((Below.refl _ _).alloc (Nat.le_refl _) (Obj.cells #[] 82)) []) (fun b hb => by cases hb)
      generalize (w2.drew).alloc (Obj.cells #[] 82) = x1 at *
      generalize (w2.drew).heap.size = B at *
      simp only [Act.put, List.setIfInBounds_toArray, List.set_cons_succ, List.set_cons_zero]
      refine wpAnyH_ready (rs := [8, 12]) (by kernel_rfl) (by simp) (gappG 8 (some 19) (v := .slice (some ⟨B, 0, none⟩) 0 0) (B := g) (off := 0) (m := i) (c := cap) (news := flatE a) rfl (by kernel_rfl) (by kernel_rfl) rfl rfl rfl Tryz.underlying46 info82w rfl (by decide) h12 ((unhide H8) _ hD) (unhide HL8).1 (oneE a) (unhide HL8).2 (by decide) hD.fr.size (fun _ _ => trivial) ?_ (gval 12 (some 23) rfl (by kernel_rfl) (by kernel_rfl) (ex_load1 46 Tryz.isAgg46 rfl rfl hD.tab rfl) trivial ?_ AllReadyH.nil))
      · intro A8 c8 x8 h19 hg8 hf8
        have hD := hD.own h12 hg8
        clear hg8 hf8 h12
        simp only [Act.put, List.setIfInBounds_toArray, List.set_cons_succ, List.set_cons_zero]
        refine wpAnyH_ready (rs := [12]) (by kernel_rfl) (by simp) (gval 12 (some 23) rfl (by kernel_rfl) (by kernel_rfl) (ex_load1 46 Tryz.isAgg46 rfl rfl hD.tab rfl) trivial ?_ AllReadyH.nil)
        simp only [Act.put, List.setIfInBounds_toArray, List.set_cons_succ, List.set_cons_zero]
        refine gsem 15 (some 26) (.slice (some ⟨g, off, none⟩) (R.es.length - (i + 1)) (cap - (i + 1))) rfl (by kernel_rfl) (by kernel_rfl) (by kernel_rfl) (fun _ _ _ h => h) (by kernel_rfl) (by kernel_rfl) (fun X hX => ex_slice46l rfl rfl rfl ((unhide HSL) X)) trivial ?_
        simp only [Act.put, List.setIfInBounds_toArray, List.set_cons_succ, List.set_cons_zero]
        refine wpAnyH_ready (rs := [16]) (by kernel_rfl) (by simp) (gappG 16 (some 27) (v := .slice A8 (0 + i) c8) (B := g) (off := off) (m := R.es.length - (i + 1)) (c := cap - (i + 1)) (news := flatE b) rfl (by kernel_rfl) (by kernel_rfl) rfl rfl rfl Tryz.underlying46 info82w rfl (by decide) h19 ((unhide H16) _ hD) (unhide HL16).1 (oneE b) (unhide HL16).2.1 (by decide) hD.fr.size (fun _ _ => trivial) ?_ AllReadyH.nil)
        intro A9 c9 x9 h27 hg9 hf9
        have hD := hD.own h19 hg9
        clear hg9 hf9 h19
        simp only [Act.put, List.setIfInBounds_toArray, List.set_cons_succ, List.set_cons_zero]
        refine gsem 17 (some 28) (.pointer (some ⟨R.t, 0, none⟩)) rfl (by kernel_rfl) (by kernel_rfl) (by kernel_rfl) (fun _ _ _ h => h) (by kernel_rfl) (by kernel_rfl) (fun _ _ => by kernel_rfl) trivial ?_
        simp only [Act.put, List.setIfInBounds_toArray, List.set_cons_succ, List.set_cons_zero]
        refine gsem 18 (some 29) (.pointer (some ⟨R.t, 0, none⟩)) rfl (by kernel_rfl) (by kernel_rfl) (by kernel_rfl) (fun _ _ _ h => h) (by kernel_rfl) (by kernel_rfl) (fun _ _ => by kernel_rfl) trivial ?_
        simp only [Act.put, List.setIfInBounds_toArray, List.set_cons_succ, List.set_cons_zero]
        refine wpAnyH_ready (rs := [19]) (by kernel_rfl) (by simp) (gskp 19 none rfl (by kernel_rfl) (by kernel_rfl) (ex_store (t := 46) (vs := [.slice A9 (0 + i + (R.es.length - (i + 1))) c9]) rfl rfl rfl rfl (by simp [Value.oneCell']) siz46 hD.tab (by simp)) trivial ?_ AllReadyH.nil)
        simp only [Act.put, List.setIfInBounds_toArray, List.set_cons_succ, List.set_cons_zero]
        refine wpAnyH_done (by kernel_rfl) ?_ _
        try simp only [Act.put, List.setIfInBounds_toArray, List.set_cons_succ, List.set_cons_zero]
        have HF := hide (hD.fin rfl (unhide HL16).2.2 (by rw [← unhide HFL]; exact h27))
        clear hD h27
        generalize World.setCells _ _ _ _ = x10 at *
        go_wp2
        go_ret
        exact ⟨rfl, unhide HF⟩
      · simp only [Act.put, List.setIfInBounds_toArray, List.set_cons_succ, List.set_cons_zero]
        refine gsem 15 (some 26) (.slice (some ⟨g, off, none⟩) (R.es.length - (i + 1)) (cap - (i + 1))) rfl (by kernel_rfl) (by kernel_rfl) (by kernel_rfl) (fun _ _ _ h => h) (by kernel_rfl) (by kernel_rfl) (fun X hX => ex_slice46l rfl rfl rfl ((unhide HSL) X)) trivial ?_
        simp only [Act.put, List.setIfInBounds_toArray, List.set_cons_succ, List.set_cons_zero]
        refine wpAnyH_ready (rs := [8]) (by kernel_rfl) (by simp) (gappG 8 (some 19) (v := .slice (some ⟨B, 0, none⟩) 0 0) (B := g) (off := 0) (m := i) (c := cap) (news := flatE a) rfl (by kernel_rfl) (by kernel_rfl) rfl rfl rfl Tryz.underlying46 info82w rfl (by decide) h12 ((unhide H8) _ hD) (unhide HL8).1 (oneE a) (unhide HL8).2 (by decide) hD.fr.size (fun _ _ => trivial) ?_ AllReadyH.nil)
        intro A8 c8 x8 h19 hg8 hf8
        have hD := hD.own h12 hg8
        clear hg8 hf8 h12
        simp only [Act.put, List.setIfInBounds_toArray, List.set_cons_succ, List.set_cons_zero]
        refine wpAnyH_ready (rs := [16]) (by kernel_rfl) (by simp) (gappG 16 (some 27) (v := .slice A8 (0 + i) c8) (B := g) (off := off) (m := R.es.length - (i + 1)) (c := cap - (i + 1)) (news := flatE b) rfl (by kernel_rfl) (by kernel_rfl) rfl rfl rfl Tryz.underlying46 info82w rfl (by decide) h19 ((unhide H16) _ hD) (unhide HL16).1 (oneE b) (unhide HL16).2.1 (by decide) hD.fr.size (fun _ _ => trivial) ?_ AllReadyH.nil)
        intro A9 c9 x9 h27 hg9 hf9
        have hD := hD.own h19 hg9
        clear hg9 hf9 h19
        simp only [Act.put, List.setIfInBounds_toArray, List.set_cons_succ, List.set_cons_zero]
        refine gsem 17 (some 28) (.pointer (some ⟨R.t, 0, none⟩)) rfl (by kernel_rfl) (by kernel_rfl) (by kernel_rfl) (fun _ _ _ h => h) (by kernel_rfl) (by kernel_rfl) (fun _ _ => by kernel_rfl) trivial ?_
        simp only [Act.put, List.setIfInBounds_toArray, List.set_cons_succ, List.set_cons_zero]
        refine gsem 18 (some 29) (.pointer (some ⟨R.t, 0, none⟩)) rfl (by kernel_rfl) (by kernel_rfl) (by kernel_rfl) (fun _ _ _ h => h) (by kernel_rfl) (by kernel_rfl) (fun _ _ => by kernel_rfl) trivial ?_
        simp only [Act.put, List.setIfInBounds_toArray, List.set_cons_succ, List.set_cons_zero]
        refine wpAnyH_ready (rs := [19]) (by kernel_rfl) (by simp) (gskp 19 none rfl (by kernel_rfl) (by kernel_rfl) (ex_store (t := 46) (vs := [.slice A9 (0 + i + (R.es.length - (i + 1))) c9]) rfl rfl rfl rfl (by simp [Value.oneCell']) siz46 hD.tab (by simp)) trivial ?_ AllReadyH.nil)
        simp only [Act.put, List.setIfInBounds_toArray, List.set_cons_succ, List.set_cons_zero]
        refine wpAnyH_done (by kernel_rfl) ?_ _
        try simp only [Act.put, List.setIfInBounds_toArray, List.set_cons_succ, List.set_cons_zero]
        have HF := hide (hD.fin rfl (unhide HL16).2.2 (by rw [← unhide HFL]; exact h27))
        clear hD h27
        generalize World.setCells _ _ _ _ = x10 at *
        go_wp2
        go_ret
        exact ⟨rfl, unhide HF⟩
    · simp only [Act.put, List.setIfInBounds_toArray, List.set_cons_succ, List.set_cons_zero]
      refine gsem 15 (some 26) (.slice (some ⟨g, off, none⟩) (R.es.length - (i + 1)) (cap - (i + 1))) rfl (by kernel_rfl) (by kernel_rfl) (by kernel_rfl) (fun _ _ _ h => h) (by kernel_rfl) (by kernel_rfl) (fun X hX => ex_slice46l rfl rfl rfl ((unhide HSL) X)) trivial ?_
      simp only [Act.put, List.setIfInBounds_toArray, List.set_cons_succ, List.set_cons_zero]
      refine wpAnyH_ready (rs := [1]) (by kernel_rfl) (by simp) (gval 1 (some 12) rfl (by kernel_rfl) (by kernel_rfl) (ex_none46 rfl) trivial ?_ AllReadyH.nil)
      have h12 := own_none w2.drew w.heap.size 82 21 hD.fr.size
      have hD := hD.step (Fr.of_below ((Below.refl _ _).alloc (Nat.le_refl _) (Obj.cells #[] 82)) []) (fun b hb => by cases hb)
      generalize (w2.drew).alloc (Obj.cells #[] 82) = x1 at *
      generalize (w2.drew).heap.size = B at *
      simp only [Act.put, List.setIfInBounds_toArray, List.set_cons_succ, List.set_cons_zero]
      refine wpAnyH_ready (rs := [8]) (by kernel_rfl) (by simp) (gappG 8 (some 19) (v := .slice (some ⟨B, 0, none⟩) 0 0) (B := g) (off := 0) (m := i) (c := cap) (news := flatE a) rfl (by kernel_rfl) (by kernel_rfl) rfl rfl rfl Tryz.underlying46 info82w rfl (by decide) h12 ((unhide H8) _ hD) (unhide HL8).1 (oneE a) (unhide HL8).2 (by decide) hD.fr.size (fun _ _ => trivial) ?_ AllReadyH.nil)
      intro A8 c8 x8 h19 hg8 hf8
      have hD := hD.own h12 hg8
      clear hg8 hf8 h12
      simp only [Act.put, List.setIfInBounds_toArray, List.set_cons_succ, List.set_cons_zero]
      refine wpAnyH_ready (rs := [16]) (by kernel_rfl) (by simp) (gappG 16 (some 27) (v := .slice A8 (0 + i) c8) (B := g) (off := off) (m := R.es.length - (i + 1)) (c := cap - (i + 1)) (news := flatE b) rfl (by kernel_rfl) (by kernel_rfl) rfl rfl rfl Tryz.underlying46 info82w rfl (by decide) h19 ((unhide H16) _ hD) (unhide HL16).1 (oneE b) (unhide HL16).2.1 (by decide) hD.fr.size (fun _ _ => trivial) ?_ AllReadyH.nil)
      intro A9 c9 x9 h27 hg9 hf9
      have hD := hD.own h19 hg9
      clear hg9 hf9 h19
      simp only [Act.put, List.setIfInBounds_toArray, List.set_cons_succ, List.set_cons_zero]
      refine gsem 17 (some 28) (.pointer (some ⟨R.t, 0, none⟩)) rfl (by kernel_rfl) (by kernel_rfl) (by kernel_rfl) (fun _ _ _ h => h) (by kernel_rfl) (by kernel_rfl) (fun _ _ => by kernel_rfl) trivial ?_
      simp only [Act.put, List.setIfInBounds_toArray, List.set_cons_succ, List.set_cons_zero]
      refine gsem 18 (some 29) (.pointer (some ⟨R.t, 0, none⟩)) rfl (by kernel_rfl) (by kernel_rfl) (by kernel_rfl) (fun _ _ _ h => h) (by kernel_rfl) (by kernel_rfl) (fun _ _ => by kernel_rfl) trivial ?_
      simp only [Act.put, List.setIfInBounds_toArray, List.set_cons_succ, List.set_cons_zero]
      refine wpAnyH_ready (rs := [19]) (by kernel_rfl) (by simp) (gskp 19 none rfl (by kernel_rfl) (by kernel_rfl) (ex_store (t := 46) (vs := [.slice A9 (0 + i + (R.es.length - (i + 1))) c9]) rfl rfl rfl rfl (by simp [Value.oneCell']) siz46 hD.tab (by simp)) trivial ?_ AllReadyH.nil)
      simp only [Act.put, List.setIfInBounds_toArray, List.set_cons_succ, List.set_cons_zero]
      refine wpAnyH_done (by kernel_rfl) ?_ _
      try simp only [Act.put, List.setIfInBounds_toArray, List.set_cons_succ, List.set_cons_zero]
      have HF := hide (hD.fin rfl (unhide HL16).2.2 (by rw [← unhide HFL]; exact h27))
      clear hD h27
      generalize World.setCells _ _ _ _ = x10 at *
      go_wp2
      go_ret
      exact ⟨rfl, unhide HF⟩
  · simp only [Act.put, List.setIfInBounds_toArray, List.set_cons_succ, List.set_cons_zero]
    refine gsem 15 (some 26) (.slice (some ⟨g, off, none⟩) (R.es.length - (i + 1)) (cap - (i + 1))) rfl (by kernel_rfl) (by kernel_rfl) (by kernel_rfl) (fun _ _ _ h => h) (by kernel_rfl) (by kernel_rfl) (fun X hX => ex_slice46l rfl rfl rfl ((unhide HSL) X)) trivial ?_
    simp only [Act.put, List.setIfInBounds_toArray, List.set_cons_succ, List.set_cons_zero]
    refine wpAnyH_ready (rs := [1, 5]) (by kernel_rfl) (by simp) (gval 1 (some 12) rfl (by kernel_rfl) (by kernel_rfl) (ex_none46 rfl) trivial ?_ (gval 5 (some 16) rfl (by kernel_rfl) (by kernel_rfl) (ex_load1 46 Tryz.isAgg46 rfl rfl hD.tab rfl) trivial ?_ AllReadyH.nil))
    · have h12 := own_none w2.drew w.heap.size 82 21 hD.fr.size
      have hD := hD.step (Fr.of_below ((Below.refl _ _).alloc (Nat.le_refl _) (Obj.cells #[] 82)) []) (fun b hb => by cases hb)
      generalize (w2.drew).alloc (Obj.cells #[] 82) = x1 at *
      generalize (w2.drew).heap.size = B at *
      simp only [Act.put, List.setIfInBounds_toArray, List.set_cons_succ, List.set_cons_zero]
      refine wpAnyH_ready (rs := [5]) (by kernel_rfl) (by simp) (gval 5 (some 16) rfl (by kernel_rfl) (by kernel_rfl) (ex_load1 46 Tryz.isAgg46 rfl rfl hD.tab rfl) trivial ?_ AllReadyH.nil)
      simp only [Act.put, List.setIfInBounds_toArray, List.set_cons_succ, List.set_cons_zero]
      refine gsem 7 (some 18) (.slice (some ⟨g, 0, none⟩) i cap) rfl (by kernel_rfl) (by kernel_rfl) (by kernel_rfl) (fun _ _ _ h => h) (by kernel_rfl) (by kernel_rfl) (fun X hX => ex_slice46h rfl rfl rfl ((unhide HSH) X)) trivial ?_
      simp only [Act.put, List.setIfInBounds_toArray, List.set_cons_succ, List.set_cons_zero]
      refine wpAnyH_ready (rs := [8]) (by kernel_rfl) (by simp) (gappG 8 (some 19) (v := .slice (some ⟨B, 0, none⟩) 0 0) (B := g) (off := 0) (m := i) (c := cap) (news := flatE a) rfl (by kernel_rfl) (by kernel_rfl) rfl rfl rfl Tryz.underlying46 info82w rfl (by decide) h12 ((unhide H8) _ hD) (unhide HL8).1 (oneE a) (unhide HL8).2 (by decide) hD.fr.size (fun _ _ => trivial) ?_ AllReadyH.nil)
      intro A8 c8 x8 h19 hg8 hf8
      have hD := hD.own h12 hg8
      clear hg8 hf8 h12
      simp only [Act.put, List.setIfInBounds_toArray, List.set_cons_succ, List.set_cons_zero]
      refine wpAnyH_ready (rs := [16]) (by kernel_rfl) (by simp) (gappG 16 (some 27) (v := .slice A8 (0 + i) c8) (B := g) (off := off) (m := R.es.length - (i + 1)) (c := cap - (i + 1)) (news := flatE b) rfl (by kernel_rfl) (by kernel_rfl) rfl rfl rfl Tryz.underlying46 info82w rfl (by decide) h19 ((unhide H16) _ hD) (unhide HL16).1 (oneE b) (unhide HL16).2.1 (by decide) hD.fr.size (fun _ _ => trivial) ?_ AllReadyH.nil)
      intro A9 c9 x9 h27 hg9 hf9
      have hD := hD.own h19 hg9
      clear hg9 hf9 h19
      simp only [Act.put, List.setIfInBounds_toArray, List.set_cons_succ, List.set_cons_zero]
      refine gsem 17 (some 28) (.pointer (some ⟨R.t, 0, none⟩)) rfl (by kernel_rfl) (by kernel_rfl) (by kernel_rfl) (fun _ _ _ h => h) (by kernel_rfl) (by kernel_rfl) (fun _ _ => by kernel_rfl) trivial ?_
      simp only [Act.put, List.setIfInBounds_toArray, List.set_cons_succ, List.set_cons_zero]
      refine gsem 18 (some 29) (.pointer (some ⟨R.t, 0, none⟩)) rfl (by kernel_rfl) (by kernel_rfl) (by kernel_rfl) (fun _ _ _ h => h) (by kernel_rfl) (by kernel_rfl) (fun _ _ => by kernel_rfl) trivial ?_
      simp only [Act.put, List.setIfInBounds_toArray, List.set_cons_succ, List.set_cons_zero]
      refine wpAnyH_ready (rs := [19]) (by kernel_rfl) (by simp) (gskp 19 none rfl (by kernel_rfl) (by kernel_rfl) (ex_store (t := 46) (vs := [.slice A9 (0 + i + (R.es.length - (i + 1))) c9]) rfl rfl rfl rfl (by simp [Value.oneCell']) siz46 hD.tab (by simp)) trivial ?_ AllReadyH.nil)
      simp only [Act.put, List.setIfInBounds_toArray, List.set_cons_succ, List.set_cons_zero]
      refine wpAnyH_done (by kernel_rfl) ?_ _
      try simp only [Act.put, List.setIfInBounds_toArray, List.set_cons_succ, List.set_cons_zero]
      have HF := hide (hD.fin rfl (unhide HL16).2.2 (by rw [← unhide HFL]; exact h27))
      clear hD h27
      generalize World.setCells _ _ _ _ = x10 at *
      go_wp2
      go_ret
      exact ⟨rfl, unhide HF⟩
    · simp only [Act.put, List.setIfInBounds_toArray, List.set_cons_succ, List.set_cons_zero]
      refine gsem 7 (some 18) (.slice (some ⟨g, 0, none⟩) i cap) rfl (by kernel_rfl) (by kernel_rfl) (by kernel_rfl) (fun _ _ _ h => h) (by kernel_rfl) (by kernel_rfl) (fun X hX => ex_slice46h rfl rfl rfl ((unhide HSH) X)) trivial ?_
      simp only [Act.put, List.setIfInBounds_toArray, List.set_cons_succ, List.set_cons_zero]
      refine wpAnyH_ready (rs := [1]) (by kernel_rfl) (by simp) (gval 1 (some 12) rfl (by kernel_rfl) (by kernel_rfl) (ex_none46 rfl) trivial ?_ AllReadyH.nil)
      have h12 := own_none w2.drew w.heap.size 82 21 hD.fr.size
      have hD := hD.step (Fr.of_below ((Below.refl _ _).alloc (Nat.le_refl _) (Obj.cells #[] 82)) []) (fun b hb => by cases hb)
      generalize (w2.drew).alloc (Obj.cells #[] 82) = x1 at *
      generalize (w2.drew).heap.size = B at *
      simp only [Act.put, List.setIfInBounds_toArray, List.set_cons_succ, List.set_cons_zero]
      refine wpAnyH_ready (rs := [8]) (by kernel_rfl) (by simp) (gappG 8 (some 19) (v := .slice (some ⟨B, 0, none⟩) 0 0) (B := g) (off := 0) (m := i) (c := cap) (news := flatE a) rfl (by kernel_rfl) (by kernel_rfl) rfl rfl rfl Tryz.underlying46 info82w rfl (by decide) h12 ((unhide H8) _ hD) (unhide HL8).1 (oneE a) (unhide HL8).2 (by decide) hD.fr.size (fun _ _ => trivial) ?_ AllReadyH.nil)
      intro A8 c8 x8 h19 hg8 hf8
      have hD := hD.own h12 hg8
      clear hg8 hf8 h12
      simp only [Act.put, List.setIfInBounds_toArray, List.set_cons_succ, List.set_cons_zero]
      refine wpAnyH_ready (rs := [16]) (by kernel_rfl) (by simp) (gappG 16 (some 27) (v := .slice A8 (0 + i) c8) (B := g) (off := off) (m := R.es.length - (i + 1)) (c := cap - (i + 1)) (news := flatE b) rfl (by kernel_rfl) (by kernel_rfl) rfl rfl rfl Tryz.underlying46 info82w rfl (by decide) h19 ((unhide H16) _ hD) (unhide HL16).1 (oneE b) (unhide HL16).2.1 (by decide) hD.fr.size (fun _ _ => trivial) ?_ AllReadyH.nil)
      intro A9 c9 x9 h27 hg9 hf9
      have hD := hD.own h19 hg9
      clear hg9 hf9 h19
      simp only [Act.put, List.setIfInBounds_toArray, List.set_cons_succ, List.set_cons_zero]
      refine gsem 17 (some 28) (.pointer (some ⟨R.t, 0, none⟩)) rfl (by kernel_rfl) (by kernel_rfl) (by kernel_rfl) (fun _ _ _ h => h) (by kernel_rfl) (by kernel_rfl) (fun _ _ => by kernel_rfl) trivial ?_
      simp only [Act.put, List.setIfInBounds_toArray, List.set_cons_succ, List.set_cons_zero]
      refine gsem 18 (some 29) (.pointer (some ⟨R.t, 0, none⟩)) rfl (by kernel_rfl) (by kernel_rfl) (by kernel_rfl) (fun _ _ _ h => h) (by kernel_rfl) (by kernel_rfl) (fun _ _ => by kernel_rfl) trivial ?_
      simp only [Act.put, List.setIfInBounds_toArray, List.set_cons_succ, List.set_cons_zero]
      refine wpAnyH_ready (rs := [19]) (by kernel_rfl) (by simp) (gskp 19 none rfl (by kernel_rfl) (by kernel_rfl) (ex_store (t := 46) (vs := [.slice A9 (0 + i + (R.es.length - (i + 1))) c9]) rfl rfl rfl rfl (by simp [Value.oneCell']) siz46 hD.tab (by simp)) trivial ?_ AllReadyH.nil)
      simp only [Act.put, List.setIfInBounds_toArray, List.set_cons_succ, List.set_cons_zero]
      refine wpAnyH_done (by kernel_rfl) ?_ _
      try simp only [Act.put, List.setIfInBounds_toArray, List.set_cons_succ, List.set_cons_zero]
      have HF := hide (hD.fin rfl (unhide HL16).2.2 (by rw [← unhide HFL]; exact h27))
      clear hD h27
      generalize World.setCells _ _ _ _ = x10 at *
      go_wp2
      go_ret
      exact ⟨rfl, unhide HF⟩
end Go.Proofs.YtpbdidnphkkenaaGreatDoor

/-! Oh -/
namespace Go.Proofs.YtpbdidnphkkenaaGreatDoor
open Go Go.Proofs Go.Maps Go.RowKit
set_option linter.unusedSimpArgs false
set_option linter.unusedVariables false
set_option maxHeartbeats 1000000
/-- What Delete makes of the document's list. -/
def DelR (R : RT) (k : KK) (R' : RT) : Prop := (R.find k = none ∧ R'.es = R.es) ∨ ∃ a x b, R.es = a ++ x :: b ∧ R.find k = some a.length ∧ R'.es = a ++ b
set_option maxRecDepth 100000 in
theorem refDelete_none (R : RT) (k : KK) (w : World) (hR : R.Is w) (hl : R.es.length ≤ 100000) (hf : R.find k = none) : Calls Tryz.prog 15 #[.pointer (some ⟨R.t, 0, none⟩), k.agg] w fun e w' => e = .returned (.bool false) ∧ ∃ R', RT.To R R' w w' ∧ R'.es = R.es := by
  have HR := hide (hR.on ((Below.refl _ _).alloc (Nat.le_refl _) (Obj.cells k.cs.toArray 33)))
  have LL := hide ((Hq.nil w R.blocks).new k.cs 33 (Nat.succ_pos _))
  have HC := hide (fun X hX => find36 R k X hX hl)
  rw [hf] at HC
  rw [show fI none = (-1 : Int) from rfl] at HC
  clear hf hl hR
  rw [show k.agg = .agg k.cs.toArray from rfl]
  go_enter Tryz.func15, Tryz.ntmps15
  go_wp2_with (first | go_skip | ((refine rd (by rfl) (ex_loadN (vs := k.cs) 33 2 row33x siz33 rfl rfl ((unhide LL).get 0 rfl) rfl rfl) ?_); simp only [Act.put, List.setIfInBounds_toArray, List.set_cons_succ, List.set_cons_zero]))
  refine ((unhide HC) _ (unhide HR)).mono ?_
  rintro _ w2 ⟨rfl, hb⟩
  replace HR := hide ((unhide HR).on hb)
  replace LL := hide ((unhide LL).on hb)
  clear hb HC
  go_wp2
  go_ret
  exact ⟨rfl, R, ⟨unhide HR, rfl, rfl, (unhide LL).fr, fun b hb => .inl hb⟩, rfl⟩
theorem refDelete15 (R : RT) (k : KK) (w : World) (hR : R.Is w) (hl : R.es.length ≤ 100000) : Calls Tryz.prog 15 #[.pointer (some ⟨R.t, 0, none⟩), k.agg] w fun e w' => e = .returned (.bool (R.find k).isSome) ∧ ∃ R', RT.To R R' w w' ∧ DelR R k R' := by
  cases hf : R.find k with
  | none =>
    refine (refDelete_none R k w hR hl hf).mono ?_
    rintro e w' ⟨rfl, R', h1, h2⟩
    exact ⟨rfl, R', h1, .inl ⟨hf, h2⟩⟩
  | some i =>
    obtain ⟨hi, hk⟩ := RT.find_lt hf
    have he : R.es = R.es.take i ++ R.es[i] :: R.es.drop (i + 1) := by simp
    have hl2 : (R.es.take i).length = i := by simp; omega
    refine (refDelete_some R k w hR hl (R.es.take i) (R.es.drop (i + 1)) R.es[i] he (by rw [hl2]; exact hf)).mono ?_
    rintro e w' ⟨rfl, R', h1, h2⟩
    exact ⟨rfl, R', h1, .inr ⟨_, _, _, he, by rw [hl2]; exact hf, h2⟩⟩
theorem ex_build48 {o : Oper} {a : Act} {w : World} {x y : Operand} {A : Option Addr} {n c : Nat} {z : Int} (ho : o.op = .build 48 #[(0, x), (1, y)]) (hx : a.eval x = .slice A n c) (hy : a.eval y = .int .i64 z) : (execOp a.eval o).run Tryz.prog w = .ok (.value (.agg [.slice A n c, .int .i64 z].toArray)) w := by
  have e : (Instr.build 48 #[(0, .slice A n c), (1, .int .i64 z)]).run Tryz.prog w = .ok (.agg [.slice A n c, .int .i64 z].toArray) w := by kernel_rfl
  unfold execOp
  simp only [ho, List.map_toArray, List.map_cons, List.map_nil, hx, hy]
  simp [e]
theorem clone_fin {R : RT} {w W : World} {A : Option Addr} {m c : Nat} (hb : Below w.heap.size w W) (hm : m = R.es.length) (ho : W.ownsRow w.heap.size 82 21 (.slice A m c) m (flatE R.es)) : ∃ R' : RT, W.heap.size = R'.t ∧ R'.Is (W.alloc (Obj.cells [.slice A m c, .int .i64 R.nx].toArray 48)) ∧ R'.es = R.es ∧ R'.nx = R.nx ∧ (∀ b ∈ R'.blocks, w.heap.size ≤ b) ∧ Below w.heap.size w (W.alloc (Obj.cells [.slice A m c, .int .i64 R.nx].toArray 48)) := by
  have bl := (Below.refl W.heap.size W).alloc (Nat.le_refl _) (Obj.cells [.slice A m c, .int .i64 R.nx].toArray 48)
  refine ⟨⟨W.heap.size, .slice A m c, R.es, R.nx⟩, rfl, ⟨Holds.new W _ 48, ?_, ?_⟩, rfl, rfl, ?_, hb.trans (bl.mono hb.size)⟩
  · rw [← hm]
    exact own_mono (own_block ho (fun b hb' => bl.block b (World.ownsRow.lt ho b hb').2)) (Nat.zero_le _)
  · unfold RT.blocks
    cases hv : (Value.slice A m c).ownBlock with
    | none => simp
    | some b =>
      have := (World.ownsRow.lt ho b hv).2
      simp
      omega
  · intro b hb'
    unfold RT.blocks at hb'
    simp only [List.mem_cons] at hb'
    rcases hb' with rfl | h1
    · exact hb.size
    · exact (World.ownsRow.lt ho b (by simpa using h1)).1
set_option maxRecDepth 100000 in
theorem refClone_nil (R : RT) (w : World) (hR : R.Is w) (hl : R.es.length ≤ 100000) (hv : R.lv = .slice none 0 0) (h0 : R.es = []) : Calls Tryz.prog 25 #[.pointer (some ⟨R.t, 0, none⟩)] w fun e w' => ∃ R' : RT, e = .returned (.pointer (some ⟨R'.t, 0, none⟩)) ∧ R'.Is w' ∧ R'.es = R.es ∧ R'.nx = R.nx ∧ (∀ b ∈ R'.blocks, w.heap.size ≤ b) ∧ Below w.heap.size w w' := by
  have hT : Holds w R.t [.slice none 0 0, .int .i64 R.nx] := by have := hR.tab; unfold RT.cs at this; rw [hv] at this; exact this
  have hO := hR.own
  rw [hv] at hO
  have HT := hide hT
  have HO := hide hO
  have htl := hR.lt R.t (by simp [RT.blocks])
  clear hR hT hO
  go_enter Tryz.func25, Tryz.ntmps25
  go_wp2
  refine wp_region_held_drew (P := Tryz.prog) (S := fun X => Holds X R.t [.slice none 0 0, .int .i64 R.nx]) (by kernel_rfl) ((unhide HT).block rfl) (fun hS0 => ?_)
  refine gsem 1 (some 4) (.pointer (some ⟨R.t, 0, none⟩)) rfl (by kernel_rfl) (by kernel_rfl) (by kernel_rfl) (fun _ _ _ h => h) (by kernel_rfl) (by kernel_rfl) (fun _ _ => by kernel_rfl) hS0 ?_
  simp only [Act.put, List.setIfInBounds_toArray, List.set_cons_succ, List.set_cons_zero]
  refine gsem 2 (some 5) (.pointer (some ⟨R.t, 0, none⟩)) rfl (by kernel_rfl) (by kernel_rfl) (by kernel_rfl) (fun _ _ _ h => h) (by kernel_rfl) (by kernel_rfl) (fun _ _ => by kernel_rfl) hS0 ?_
  simp only [Act.put, List.setIfInBounds_toArray, List.set_cons_succ, List.set_cons_zero]
  refine gsem 3 (some 6) (.pointer (some ⟨R.t, 0, none⟩)) rfl (by kernel_rfl) (by kernel_rfl) (by kernel_rfl) (fun _ _ _ h => h) (by kernel_rfl) (by kernel_rfl) (fun _ _ => by kernel_rfl) hS0 ?_
  simp only [Act.put, List.setIfInBounds_toArray, List.set_cons_succ, List.set_cons_zero]
  refine gsem 4 (some 7) (.slice none 0 0) rfl (by kernel_rfl) (by kernel_rfl) (by kernel_rfl) (fun _ _ _ h => h) (by kernel_rfl) (by kernel_rfl) (fun X hX => ex_load1 46 Tryz.isAgg46 rfl rfl (hX) rfl) hS0 ?_
  simp only [Act.put, List.setIfInBounds_toArray, List.set_cons_succ, List.set_cons_zero]
  refine gsem 6 (some 9) (.pointer (some ⟨R.t, 0, none⟩)) rfl (by kernel_rfl) (by kernel_rfl) (by kernel_rfl) (fun _ _ _ h => h) (by kernel_rfl) (by kernel_rfl) (fun _ _ => by kernel_rfl) hS0 ?_
  simp only [Act.put, List.setIfInBounds_toArray, List.set_cons_succ, List.set_cons_zero]
  refine gsem 7 (some 10) (.pointer (some ⟨R.t, 0, none⟩)) rfl (by kernel_rfl) (by kernel_rfl) (by kernel_rfl) (fun _ _ _ h => h) (by kernel_rfl) (by kernel_rfl) (fun _ _ => by kernel_rfl) hS0 ?_
  simp only [Act.put, List.setIfInBounds_toArray, List.set_cons_succ, List.set_cons_zero]
  refine gsem 8 (some 11) (.pointer (some ⟨R.t, 1, none⟩)) rfl (by kernel_rfl) (by kernel_rfl) (by kernel_rfl) (fun _ _ _ h => h) (by kernel_rfl) (by kernel_rfl) (fun _ _ => by kernel_rfl) hS0 ?_
  simp only [Act.put, List.setIfInBounds_toArray, List.set_cons_succ, List.set_cons_zero]
  refine gsem 9 (some 12) (.int .i64 R.nx) rfl (by kernel_rfl) (by kernel_rfl) (by kernel_rfl) (fun _ _ _ h => h) (by kernel_rfl) (by kernel_rfl) (fun X hX => ex_load1 3 Tryz.isAgg3 rfl rfl (hX) rfl) hS0 ?_
  simp only [Act.put, List.setIfInBounds_toArray, List.set_cons_succ, List.set_cons_zero]
  have bl := (Below.refl w.drew.heap.size w.drew).alloc (Nat.le_refl _) (Obj.cells #[] 82)
  have hb1 : Below w.heap.size w (w.drew.alloc (Obj.cells #[] 82)) := (below_dr (Below.refl w.heap.size w)).trans bl
  have h12 := own_none w.drew w.heap.size 82 21 (Nat.le_refl _)
  have hS1 := hS0.block (bl.block R.t htl)
  refine wpAnyH_ready (rs := [0]) (by kernel_rfl) (by simp) (gval 0 (some 3) rfl (by kernel_rfl) (by kernel_rfl) (ex_none46 rfl) hS1 ?_ AllReadyH.nil)
  clear hS0
  replace HO := hide (own_block (w' := w.drew.alloc (Obj.cells #[] 82)) (unhide HO) (fun b hb => bl.block b (World.ownsRow.lt (unhide HO) b hb).2))
  clear bl
  generalize w.drew.alloc (Obj.cells #[] 82) = x1 at *
  generalize w.drew.heap.size = B at *
  simp only [Act.put, List.setIfInBounds_toArray, List.set_cons_succ, List.set_cons_zero]
  obtain ⟨i0, hi0, -⟩ := info_parts info82w
  have hrun := fun ty => run_append_owned_none (P := Tryz.prog) (w := x1) w.heap.size 46 ty 82 i0 21 Tryz.underlying46 hi0 (.slice (some ⟨B, 0, none⟩) 0 0) 0 [] h12
  refine wpAnyH_ready (rs := [5]) (by kernel_rfl) (by simp) (gval 5 (some 8) (V := .slice (some ⟨B, 0, none⟩) 0 0) (X := x1) rfl (by kernel_rfl) (by kernel_rfl) (by have h := hrun 46; simp [execOp, resolve, invoke, builtin, h, Result.andThen, Act.eval]) hS1 ?_ AllReadyH.nil)
  clear hrun
  simp only [Act.put, List.setIfInBounds_toArray, List.set_cons_succ, List.set_cons_zero]
  refine gsem 10 (some 13) (.agg [.slice (some ⟨B, 0, none⟩) 0 0, .int .i64 R.nx].toArray) rfl (by kernel_rfl) (by kernel_rfl) (by kernel_rfl) (fun _ _ _ h => h) (by kernel_rfl) (by kernel_rfl) (fun X hX => ex_build48 rfl rfl rfl) hS1 ?_
  simp only [Act.put, List.setIfInBounds_toArray, List.set_cons_succ, List.set_cons_zero]
  have FIN := clone_fin (R := R) (A := some ⟨B, 0, none⟩) (m := 0) (c := 0) hb1 (by rw [h0]; rfl) (by rw [h0]; exact h12)
  refine wpAnyH_ready (rs := [11]) (by kernel_rfl) (by simp) (gval 11 (some 14) rfl (by kernel_rfl) (by kernel_rfl) (ex_box 48 [.slice (some ⟨B, 0, none⟩) 0 0, .int .i64 R.nx] rfl rfl rfl) (hS1.block (((Below.refl _ _).alloc (Nat.le_refl _) (Obj.cells [.slice (some ⟨B, 0, none⟩) 0 0, .int .i64 R.nx].toArray 48)).block R.t (by have := hb1.size; omega))) ?_ AllReadyH.nil)
  replace hS1 := hS1.block (((Below.refl x1.heap.size x1).alloc (Nat.le_refl _) (Obj.cells [.slice (some ⟨B, 0, none⟩) 0 0, .int .i64 R.nx].toArray 48)).block R.t (by have := hb1.size; omega))
  simp only [Act.put, List.setIfInBounds_toArray, List.set_cons_succ, List.set_cons_zero]
  obtain ⟨R', ht, hR'⟩ := FIN
  rw [ht]
  generalize x1.alloc (Obj.cells [.slice (some ⟨B, 0, none⟩) 0 0, .int .i64 R.nx].toArray 48) = x9 at *
  refine gsem 12 (some 2) (.pointer (some ⟨R'.t, 0, none⟩)) rfl (by kernel_rfl) (by kernel_rfl) (by kernel_rfl) (fun _ _ _ h => h) (by kernel_rfl) (by kernel_rfl) (fun _ _ => by kernel_rfl) hS1 ?_
  simp only [Act.put, List.setIfInBounds_toArray, List.set_cons_succ, List.set_cons_zero]
  refine wpAnyH_done (by kernel_rfl) ?_ _
  try simp only [Act.put, List.setIfInBounds_toArray, List.set_cons_succ, List.set_cons_zero]
  have HF := hide hR'
  clear hR' hS1 ht
  go_wp2
  go_ret
  exact ⟨R', rfl, unhide HF⟩
set_option maxRecDepth 100000 in
theorem refClone_rows (R : RT) (g cap : Nat) (w : World) (hR : R.Is w) (hl : R.es.length ≤ 100000) (hv : R.lv = .slice (some ⟨g, 0, none⟩) R.es.length cap) : Calls Tryz.prog 25 #[.pointer (some ⟨R.t, 0, none⟩)] w fun e w' => ∃ R' : RT, e = .returned (.pointer (some ⟨R'.t, 0, none⟩)) ∧ R'.Is w' ∧ R'.es = R.es ∧ R'.nx = R.nx ∧ (∀ b ∈ R'.blocks, w.heap.size ≤ b) ∧ Below w.heap.size w w' := by
  have hT : Holds w R.t [.slice (some ⟨g, 0, none⟩) R.es.length cap, .int .i64 R.nx] := by have := hR.tab; unfold RT.cs at this; rw [hv] at this; exact this
  have hO := hR.own
  rw [hv] at hO
  have HT := hide hT
  have HO := hide hO
  have htl := hR.lt R.t (by simp [RT.blocks])
  clear hR hT hO
  go_enter Tryz.func25, Tryz.ntmps25
  go_wp2
  refine wp_region_held_drew (P := Tryz.prog) (S := fun X => Holds X R.t [.slice (some ⟨g, 0, none⟩) R.es.length cap, .int .i64 R.nx]) (by kernel_rfl) ((unhide HT).block rfl) (fun hS0 => ?_)
  refine gsem 1 (some 4) (.pointer (some ⟨R.t, 0, none⟩)) rfl (by kernel_rfl) (by kernel_rfl) (by kernel_rfl) (fun _ _ _ h => h) (by kernel_rfl) (by kernel_rfl) (fun _ _ => by kernel_rfl) hS0 ?_
  simp only [Act.put, List.setIfInBounds_toArray, List.set_cons_succ, List.set_cons_zero]
  refine gsem 2 (some 5) (.pointer (some ⟨R.t, 0, none⟩)) rfl (by kernel_rfl) (by kernel_rfl) (by kernel_rfl) (fun _ _ _ h => h) (by kernel_rfl) (by kernel_rfl) (fun _ _ => by kernel_rfl) hS0 ?_
  simp only [Act.put, List.setIfInBounds_toArray, List.set_cons_succ, List.set_cons_zero]
  refine gsem 3 (some 6) (.pointer (some ⟨R.t, 0, none⟩)) rfl (by kernel_rfl) (by kernel_rfl) (by kernel_rfl) (fun _ _ _ h => h) (by kernel_rfl) (by kernel_rfl) (fun _ _ => by kernel_rfl) hS0 ?_
  simp only [Act.put, List.setIfInBounds_toArray, List.set_cons_succ, List.set_cons_zero]
  refine gsem 4 (some 7) (.slice (some ⟨g, 0, none⟩) R.es.length cap) rfl (by kernel_rfl) (by kernel_rfl) (by kernel_rfl) (fun _ _ _ h => h) (by kernel_rfl) (by kernel_rfl) (fun X hX => ex_load1 46 Tryz.isAgg46 rfl rfl (hX) rfl) hS0 ?_
  simp only [Act.put, List.setIfInBounds_toArray, List.set_cons_succ, List.set_cons_zero]
  refine gsem 6 (some 9) (.pointer (some ⟨R.t, 0, none⟩)) rfl (by kernel_rfl) (by kernel_rfl) (by kernel_rfl) (fun _ _ _ h => h) (by kernel_rfl) (by kernel_rfl) (fun _ _ => by kernel_rfl) hS0 ?_
  simp only [Act.put, List.setIfInBounds_toArray, List.set_cons_succ, List.set_cons_zero]
  refine gsem 7 (some 10) (.pointer (some ⟨R.t, 0, none⟩)) rfl (by kernel_rfl) (by kernel_rfl) (by kernel_rfl) (fun _ _ _ h => h) (by kernel_rfl) (by kernel_rfl) (fun _ _ => by kernel_rfl) hS0 ?_
  simp only [Act.put, List.setIfInBounds_toArray, List.set_cons_succ, List.set_cons_zero]
  refine gsem 8 (some 11) (.pointer (some ⟨R.t, 1, none⟩)) rfl (by kernel_rfl) (by kernel_rfl) (by kernel_rfl) (fun _ _ _ h => h) (by kernel_rfl) (by kernel_rfl) (fun _ _ => by kernel_rfl) hS0 ?_
  simp only [Act.put, List.setIfInBounds_toArray, List.set_cons_succ, List.set_cons_zero]
  refine gsem 9 (some 12) (.int .i64 R.nx) rfl (by kernel_rfl) (by kernel_rfl) (by kernel_rfl) (fun _ _ _ h => h) (by kernel_rfl) (by kernel_rfl) (fun X hX => ex_load1 3 Tryz.isAgg3 rfl rfl (hX) rfl) hS0 ?_
  simp only [Act.put, List.setIfInBounds_toArray, List.set_cons_succ, List.set_cons_zero]
  have bl := (Below.refl w.drew.heap.size w.drew).alloc (Nat.le_refl _) (Obj.cells #[] 82)
  have hb1 : Below w.heap.size w (w.drew.alloc (Obj.cells #[] 82)) := (below_dr (Below.refl w.heap.size w)).trans bl
  have h12 := own_none w.drew w.heap.size 82 21 (Nat.le_refl _)
  have hS1 := hS0.block (bl.block R.t htl)
  refine wpAnyH_ready (rs := [0]) (by kernel_rfl) (by simp) (gval 0 (some 3) rfl (by kernel_rfl) (by kernel_rfl) (ex_none46 rfl) hS1 ?_ AllReadyH.nil)
  clear hS0
  replace HO := hide (own_block (w' := w.drew.alloc (Obj.cells #[] 82)) (unhide HO) (fun b hb => bl.block b (World.ownsRow.lt (unhide HO) b hb).2))
  clear bl
  generalize w.drew.alloc (Obj.cells #[] 82) = x1 at *
  generalize w.drew.heap.size = B at *
  simp only [Act.put, List.setIfInBounds_toArray, List.set_cons_succ, List.set_cons_zero]
  refine wpAnyH_ready (rs := [5]) (by kernel_rfl) (by simp) (gappG 5 (some 8) (v := .slice (some ⟨B, 0, none⟩) 0 0) (B := g) (off := 0) (m := R.es.length) (c := cap) (news := flatE R.es) rfl (by kernel_rfl) (by kernel_rfl) rfl rfl rfl Tryz.underlying46 info82w rfl (by decide) h12 (own_holds (unhide HO)).2 (flatE_len _) (oneE _) (by omega) (by decide) hb1.size (fun X hX => hS1.block (hX.block R.t (by have := hb1.size; omega) (fun e => by have := World.ownsRow.lt h12 R.t e.symm; omega))) ?_ AllReadyH.nil)
  intro A5 c5 x5 h5 hg5 hf5
  have hb5 : Below w.heap.size w x5 := ((Fr.of_below hb1 []).trans (Fr.grown hg5) (fun b hb => Or.inr (World.ownsRow.lt h12 b (by simpa using hb)).1)).below
  replace hS1 := hS1.block (hg5.block R.t (by have := hb1.size; omega) (fun e => by have := World.ownsRow.lt h12 R.t e.symm; omega))
  clear hg5 hf5 hb1 h12
  simp only [Act.put, List.setIfInBounds_toArray, List.set_cons_succ, List.set_cons_zero]
  refine gsem 10 (some 13) (.agg [.slice (A5) (0 + R.es.length) c5, .int .i64 R.nx].toArray) rfl (by kernel_rfl) (by kernel_rfl) (by kernel_rfl) (fun _ _ _ h => h) (by kernel_rfl) (by kernel_rfl) (fun X hX => ex_build48 rfl rfl rfl) hS1 ?_
  simp only [Act.put, List.setIfInBounds_toArray, List.set_cons_succ, List.set_cons_zero]
  have FIN := clone_fin (R := R) (A := A5) (m := 0 + R.es.length) (c := c5) hb5 (by omega) (by simpa using h5)
  refine wpAnyH_ready (rs := [11]) (by kernel_rfl) (by simp) (gval 11 (some 14) rfl (by kernel_rfl) (by kernel_rfl) (ex_box 48 [.slice (A5) (0 + R.es.length) c5, .int .i64 R.nx] rfl rfl rfl) (hS1.block (((Below.refl _ _).alloc (Nat.le_refl _) (Obj.cells [.slice (A5) (0 + R.es.length) c5, .int .i64 R.nx].toArray 48)).block R.t (by have := hb5.size; omega))) ?_ AllReadyH.nil)
  replace hS1 := hS1.block (((Below.refl x5.heap.size x5).alloc (Nat.le_refl _) (Obj.cells [.slice (A5) (0 + R.es.length) c5, .int .i64 R.nx].toArray 48)).block R.t (by have := hb5.size; omega))
  simp only [Act.put, List.setIfInBounds_toArray, List.set_cons_succ, List.set_cons_zero]
  obtain ⟨R', ht, hR'⟩ := FIN
  rw [ht]
  generalize x5.alloc (Obj.cells [.slice (A5) (0 + R.es.length) c5, .int .i64 R.nx].toArray 48) = x9 at *
  refine gsem 12 (some 2) (.pointer (some ⟨R'.t, 0, none⟩)) rfl (by kernel_rfl) (by kernel_rfl) (by kernel_rfl) (fun _ _ _ h => h) (by kernel_rfl) (by kernel_rfl) (fun _ _ => by kernel_rfl) hS1 ?_
  simp only [Act.put, List.setIfInBounds_toArray, List.set_cons_succ, List.set_cons_zero]
  refine wpAnyH_done (by kernel_rfl) ?_ _
  try simp only [Act.put, List.setIfInBounds_toArray, List.set_cons_succ, List.set_cons_zero]
  have HF := hide hR'
  clear hR' hS1 ht
  go_wp2
  go_ret
  exact ⟨R', rfl, unhide HF⟩
theorem refClone25 (R : RT) (w : World) (hR : R.Is w) (hl : R.es.length ≤ 100000) : Calls Tryz.prog 25 #[.pointer (some ⟨R.t, 0, none⟩)] w fun e w' => ∃ R' : RT, e = .returned (.pointer (some ⟨R'.t, 0, none⟩)) ∧ R'.Is w' ∧ R'.es = R.es ∧ R'.nx = R.nx ∧ (∀ b ∈ R'.blocks, w.heap.size ≤ b) ∧ Below w.heap.size w w' := by
  rcases hR.own.2 with ⟨h1, h2⟩ | ⟨g, cap, cur, h1, h2⟩
  · exact refClone_nil R w hR hl h1 (List.length_eq_zero_iff.1 h2)
  · exact refClone_rows R g cap w hR hl h1
end Go.Proofs.YtpbdidnphkkenaaGreatDoor

/-! Oi -/
namespace Go.Proofs.YtpbdidnphkkenaaGreatDoor
open Go Go.Proofs Go.Maps Go.RowKit
set_option linter.unusedSimpArgs false
set_option linter.unusedVariables false
set_option maxHeartbeats 1000000
theorem ret_ct58 {fn : Func} {R : Ending → World → Prop} {a : Act} {w : World} {b r q : Nat} {vs : List Value} {v : Value} {cs : List Value} (hr : fn.results = #[.cell r 58, .tmp q]) (hdf : a.defers = [])
    (hx : a.tmps.getD r undef = .pointer (some ⟨b, 0, none⟩)) (hq : a.tmps.getD q undef = v) (hc : Holds w b cs) (hcs : (cs.drop 0).take 20 = vs) (hvl : vs.length = 20) (h : R (.returned (.tuple #[.agg vs.toArray, v])) w) : bodyPost Tryz.prog fn R .ret a w := by
  obtain ⟨t, hu, hd⟩ := row58
  have h0 := hc.mid 0 20
  rw [hcs] at h0
  have hl := run_loadVar_mid (P := Tryz.prog) w b 0 58 _ t h0 hu hd (by rw [hvl]; exact siz58)
  refine ⟨hdf, _, ?_, h⟩
  simp only [Array.getD_eq_getD_getElem?] at hx hq
  unfold results
  simp [hr, hx, hq, hl, asAddr]
  try rfl
theorem ex_alloc58 {o : Oper} {a : Act} {w : World} (ho : o.op = .alloc 58) : (execOp a.eval o).run Tryz.prog w = .ok (.value (.pointer (some ⟨w.heap.size, 0, none⟩))) (w.alloc (Obj.cells (zeroK.cs ++ zeroD.cs).toArray 58)) := by
  have e : (zeroValue 58).run Tryz.prog w = .ok (.agg (zeroK.cs ++ zeroD.cs).toArray) w := by kernel_rfl
  unfold execOp
  simp only [ho]
  simp [go_sem, e]
theorem al58 {ops : Array Oper} {rest : List Oper} {Q : Exit → Act → World → Prop} {w w0 : World} {a : Act} {o : Oper} {E : List Nat} {L : List (Nat × List Value)} (hw : Region.wanted o (yielded ops a.tmps) = true) (ho : o.op = .alloc 58) (hL : Hq w0 w E L)
    (h : ∀ X B, B = w.heap.size → Hq w0 X E (L ++ [(B, (zeroK.cs ++ zeroD.cs))]) → Below w.heap.size w X → wpList Tryz.prog ops Q rest (a.put o.dst (.pointer (some ⟨B, 0, none⟩))) X) : wpList Tryz.prog ops Q (o :: rest) a w :=
  rdw hw (ex_alloc58 ho) (h _ _ rfl (hL.new (zeroK.cs ++ zeroD.cs) 58 (by decide)) ((Below.refl _ _).alloc (Nat.le_refl _) _))
theorem ex_build58z {o : Oper} {a : Act} {w : World} (ho : o.op = .build 58 #[]) : (execOp a.eval o).run Tryz.prog w = .ok (.value (.agg (zeroK.cs ++ zeroD.cs).toArray)) w := by
  have e : (Instr.build 58 #[]).run Tryz.prog w = .ok (.agg (zeroK.cs ++ zeroD.cs).toArray) w := by kernel_rfl
  unfold execOp
  simp only [ho, List.map_toArray, List.map_nil]
  simp [e]
theorem siz58v (vs : List Value) (h : vs.length = 20) : (Tryz.prog.info? 58).map (·.size) = some vs.length := by rw [h]; exact siz58
theorem onekd (k : KK) (d : DD) : ∀ u ∈ k.cs ++ d.cs, u.oneCell' = true := by simp [KK.cs, DD.cs, VV.cs, Value.oneCell']
set_option maxRecDepth 100000 in
theorem at_out (T : TT) (i : Int) (w : World) (hT : T.Is w) (hi : i < 0 ∨ (T.live.length : Int) ≤ i) : Calls Tryz.prog 22 #[.pointer (some ⟨T.t, 0, none⟩), .int .i64 i] w fun e w' => e = .returned (.tuple #[.agg (zeroK.cs ++ zeroD.cs).toArray, .bool false]) ∧ Below w.heap.size w w' := by
  have C30 : Hid (∀ X, T.Is X → Calls Tryz.prog 30 #[.pointer (some ⟨T.t, 0, none⟩)] X fun e w' => e = .returned (.int .i64 T.live.length) ∧ w' = X) := hide (fun X hX => len30 T X hX)
  have HT := hide hT
  clear hT
  obtain ⟨n, hn⟩ : ∃ n, n = T.live.length := ⟨_, rfl⟩
  rw [← hn] at hi C30
  clear hn
  by_cases h0 : i < 0
  · clear hi
    go_enter Tryz.func22, Tryz.ntmps22
    go_wp2_with (first | go_skip | ((with_reducible show wpList _ _ _ _ _ _); first | ((refine al58 (by rfl) rfl (Hq.nil w []) ?_); intro w1 B hB L1 hb1; have LL := hide L1; have HB1 := hide hb1; have HB := hide hB; have HBle : Hid (w.heap.size ≤ B) := hide (Nat.le_of_eq hB.symm); replace HT := hide ((unhide HT).on hb1); clear hB L1 hb1; simp only [Act.put, List.setIfInBounds_toArray, List.set_cons_succ, List.set_cons_zero]) | ((refine rd (by rfl) (ex_build58z rfl) ?_); simp only [Act.put, List.setIfInBounds_toArray, List.set_cons_succ, List.set_cons_zero]) | ((with_reducible apply st (vs := (zeroK.cs ++ zeroD.cs)) (v := .agg (zeroK.cs ++ zeroD.cs).toArray) (b := B) (p := 0) 0 58); (case hw => rfl); (case ho => rfl); (case hx => rfl); (case hy => rfl); (case hv => rfl); (case h1 => exact onekd _ _); (case hi => exact siz58v _ rfl); (case hL => exact unhide LL); (case hg => rfl); (case hp => simp [zeroK, zeroD, zeroV, KK.cs, DD.cs, VV.cs]); (case hE => exact Or.inr (unhide HBle)); intro w3 L3 hf3 hs3; replace LL := hide L3; have HF3 := hide hf3; clear L3 hf3 hs3; simp only [Act.put, List.setIfInBounds_toArray, List.set_cons_succ, List.set_cons_zero])))
    refine ret_ct58 (vs := (zeroK.cs ++ zeroD.cs)) (r := 4) (q := 5) (b := B) rfl rfl rfl rfl ((unhide LL).get 0 rfl) rfl rfl ⟨rfl, (unhide LL).fr.below⟩
  · have h1 : (n : Int) ≤ i := by omega
    have h0' : decide (i < 0) = false := decide_eq_false h0
    have h1' : decide ((n : Int) ≤ i) = true := decide_eq_true h1
    clear hi
    go_enter Tryz.func22, Tryz.ntmps22
    go_wp2_with (first | go_skip | ((with_reducible show wpList _ _ _ _ _ _); first | ((refine al58 (by rfl) rfl (Hq.nil w []) ?_); intro w1 B hB L1 hb1; have LL := hide L1; have HB1 := hide hb1; have HB := hide hB; have HBle : Hid (w.heap.size ≤ B) := hide (Nat.le_of_eq hB.symm); replace HT := hide ((unhide HT).on hb1); clear hB L1 hb1; simp only [Act.put, List.setIfInBounds_toArray, List.set_cons_succ, List.set_cons_zero]) | ((refine rd (by rfl) (ex_build58z rfl) ?_); simp only [Act.put, List.setIfInBounds_toArray, List.set_cons_succ, List.set_cons_zero]) | ((with_reducible apply st (vs := (zeroK.cs ++ zeroD.cs)) (v := .agg (zeroK.cs ++ zeroD.cs).toArray) (b := B) (p := 0) 0 58); (case hw => rfl); (case ho => rfl); (case hx => rfl); (case hy => rfl); (case hv => rfl); (case h1 => exact onekd _ _); (case hi => exact siz58v _ rfl); (case hL => exact unhide LL); (case hg => rfl); (case hp => simp [zeroK, zeroD, zeroV, KK.cs, DD.cs, VV.cs]); (case hE => exact Or.inr (unhide HBle)); intro w3 L3 hf3 hs3; replace LL := hide L3; have HF3 := hide hf3; clear L3 hf3 hs3; simp only [Act.put, List.setIfInBounds_toArray, List.set_cons_succ, List.set_cons_zero])))
    refine ((unhide C30) w1 (unhide HT)).mono ?_
    rintro _ x6 ⟨rfl, e6⟩
    rw [e6]
    clear e6 x6
    go_wp2_with (first | go_skip | ((with_reducible show wpList _ _ _ _ _ _); first | ((refine al58 (by rfl) rfl (Hq.nil w []) ?_); intro w1 B hB L1 hb1; have LL := hide L1; have HB1 := hide hb1; have HB := hide hB; have HBle : Hid (w.heap.size ≤ B) := hide (Nat.le_of_eq hB.symm); replace HT := hide ((unhide HT).on hb1); clear hB L1 hb1; simp only [Act.put, List.setIfInBounds_toArray, List.set_cons_succ, List.set_cons_zero]) | ((refine rd (by rfl) (ex_build58z rfl) ?_); simp only [Act.put, List.setIfInBounds_toArray, List.set_cons_succ, List.set_cons_zero]) | ((with_reducible apply st (vs := (zeroK.cs ++ zeroD.cs)) (v := .agg (zeroK.cs ++ zeroD.cs).toArray) (b := B) (p := 0) 0 58); (case hw => rfl); (case ho => rfl); (case hx => rfl); (case hy => rfl); (case hv => rfl); (case h1 => exact onekd _ _); (case hi => exact siz58v _ rfl); (case hL => exact unhide LL); (case hg => rfl); (case hp => simp [zeroK, zeroD, zeroV, KK.cs, DD.cs, VV.cs]); (case hE => exact Or.inr (unhide HBle)); intro w3 L3 hf3 hs3; replace LL := hide L3; have HF3 := hide hf3; clear L3 hf3 hs3; simp only [Act.put, List.setIfInBounds_toArray, List.set_cons_succ, List.set_cons_zero])))
    refine ret_ct58 (vs := (zeroK.cs ++ zeroD.cs)) (r := 4) (q := 5) (b := B) rfl rfl rfl rfl ((unhide LL).get 0 rfl) rfl rfl ⟨rfl, (unhide LL).fr.below⟩
set_option maxRecDepth 100000 in
theorem at_in (T : TT) (j : Nat) (w : World) (hT : T.Is w) (hl : T.last < 100000) (hj : j < T.live.length) : Calls Tryz.prog 22 #[.pointer (some ⟨T.t, 0, none⟩), .int .i64 j] w fun e w' => e = .returned (.tuple #[.agg (T.live[j].k.cs ++ T.live[j].d.cs).toArray, .bool true]) ∧ ∃ T', TT.To T T' w w' ∧ T'.live = T.live := by
  have C30 : Hid (∀ X, T.Is X → Calls Tryz.prog 30 #[.pointer (some ⟨T.t, 0, none⟩)] X fun e w' => e = .returned (.int .i64 T.live.length) ∧ w' = X) := hide (fun X hX => len30 T X hX)
  have C39 : Hid (∀ X, T.Is X → Calls Tryz.prog 39 #[.pointer (some ⟨T.t, 0, none⟩)] X fun e w' => e = .returned (.tuple #[]) ∧ ∃ rv, (T.packed T.m rv).Is w' ∧ Fr X w' [T.t] ∧ (∀ g, rv.ownBlock = some g → T.rv.ownBlock = some g ∨ X.heap.size ≤ g)) := hide (fun X hX => closeGaps39 T X hX hl)
  have HT := hide hT
  have HLT := hide hT.lt
  obtain ⟨n, hn⟩ : ∃ n, n = T.live.length := ⟨_, rfl⟩
  obtain ⟨r, hr⟩ : ∃ r, r = T.live[j] := ⟨_, rfl⟩
  have hrm : Hid (r ∈ T.live) := hide (hr ▸ List.getElem_mem hj)
  have HP : Hid ((ptrs (T.live.map (·.b)))[0 + j]? = some (.pointer (some ⟨r.b, 0, none⟩))) := hide (by rw [hr]; exact ptrs_get T.live j hj)
  have Hn := hide hn
  rw [← hr]
  rw [← hn] at hj C30
  have hjz : (j : Int) < n := by omega
  have hjd : ¬ (j : Int) < 0 := by omega
  have hjn : ¬ (n : Int) ≤ (j : Int) := by omega
  clear hT hn hr hl
  go_enter Tryz.func22, Tryz.ntmps22
  go_wp2_with (first | go_skip | ((with_reducible show wpList _ _ _ _ _ _); first | ((refine al58 (by rfl) rfl (Hq.nil w T.blocks) ?_); intro w1 B hB L1 hb1; have LL := hide L1; have HB1 := hide hb1; have HB := hide hB; have HBle : Hid (w.heap.size ≤ B) := hide (Nat.le_of_eq hB.symm); replace HT := hide ((unhide HT).on hb1); clear hB L1 hb1; simp only [Act.put, List.setIfInBounds_toArray, List.set_cons_succ, List.set_cons_zero])))
  refine ((unhide C30) w1 (unhide HT)).mono ?_
  rintro _ x6 ⟨rfl, e6⟩
  rw [e6]
  clear e6 x6
  go_wp2_with fail
  refine ((unhide C39) w1 (unhide HT)).mono ?_
  rintro _ w2 ⟨rfl, rv, hT2, hf2, hb2⟩
  obtain ⟨A, c, hrv⟩ := own_form hT2.own
  replace hrv : rv = .slice A n c := by
    rw [unhide Hn]
    simpa [TT.packed] using hrv
  subst hrv
  have hown : w2.ownsRow 0 74 1 (.slice A (T.live.map (·.b)).length c) (T.live.map (·.b)).length (ptrs (T.live.map (·.b))) := by
    have h1 := hT2.own
    have e := unhide Hn
    unfold OwnP TT.packed at h1
    simp only at h1
    rw [List.length_map, ← e] at h1 ⊢
    exact h1
  have htl := (unhide HLT) T.t (by simp [TT.blocks])
  obtain ⟨g, rfl, -, hgl⟩ := own_some hown (by have := unhide Hn; simp; omega)
  have HG : Hid (Holds w2 g (ptrs (T.live.map (·.b)))) := hide (own_holds hown)
  have HV : Hid (Holds w2 T.t [.map (some T.m), .slice (some ⟨g, 0, none⟩) n c, .int .u64 T.last]) := hide hT2.tab
  have HRr : Hid (Holds w2 r.b r.cs) := hide (hT2.rows r (unhide hrm))
  have hBlt : B < w1.heap.size := (unhide LL).lt (B, (zeroK.cs ++ zeroD.cs)) (by simp)
  have hBe := unhide HB
  have hne : ∀ b ∈ (T.packed T.m (.slice (some ⟨g, 0, none⟩) n c)).blocks, b ∉ [B] := by
    intro b hb hm
    obtain rfl : b = B := by simpa using hm
    simp only [TT.blocks, TT.packed, List.mem_cons, List.mem_append] at hb
    have hlt := unhide HLT
    rcases hb with h1 | h1 | h1 | h1
    · omega
    · have := hlt T.m (by simp [TT.blocks]); omega
    · rcases hb2 b (by simpa using h1) with h2 | h2
      · have := hlt b (by unfold TT.blocks; rw [h2]; simp); omega
      · omega
    · have := hlt b (by unfold TT.blocks; simp only [List.mem_cons, List.mem_append]; exact .inr (.inr (.inr (live_sub T b h1)))); omega
  have HNE := hide hne
  have HNW : Hid (∀ b ∈ (T.packed T.m (.slice (some ⟨g, 0, none⟩) n c)).blocks, b ∈ T.blocks ∨ w.heap.size ≤ b) := hide (by
    intro b hb
    simp only [TT.blocks, TT.packed, List.mem_cons, List.mem_append] at hb ⊢
    rcases hb with h1 | h1 | h1 | h1
    · exact .inl (.inl h1)
    · exact .inl (.inr (.inl h1))
    · rcases hb2 b (by simpa using h1) with h2 | h2
      · exact .inl (.inr (.inr (.inl (by rw [h2]; simp))))
      · exact .inr (by omega)
    · exact .inl (.inr (.inr (.inr (live_sub T b h1)))))
  have HT2 := hide hT2
  replace LL := hide ((unhide LL).step hf2 (fun b hb => .inl (by obtain rfl : b = T.t := (by simpa using hb); simp [TT.blocks])) (fun q hq hm => by
    obtain rfl : q = (B, (zeroK.cs ++ zeroD.cs)) := by simpa using hq
    have e : B = T.t := by simpa using hm
    omega))
  clear hne hBlt hBe hT2 hf2 hb2 hown hgl htl HT C30 C39 HLT
  go_wp2_with (first | go_skip | ((with_reducible show wpList _ _ _ _ _ _); first | ((refine rd (by rfl) (ex_load1 70 Tryz.isAgg70 rfl rfl (unhide HV) rfl) ?_); simp only [Act.put, List.setIfInBounds_toArray, List.set_cons_succ, List.set_cons_zero]) | ((refine rd (by rfl) (ex_index70 (off := 0) j rfl rfl rfl hj) ?_); simp only [Act.put, List.setIfInBounds_toArray, List.set_cons_succ, List.set_cons_zero]) | ((refine rd (by rfl) (ex_load1 74 Tryz.isAgg74 rfl rfl (unhide HG) (unhide HP)) ?_); simp only [Act.put, List.setIfInBounds_toArray, List.set_cons_succ, List.set_cons_zero]) | ((refine rd (by rfl) (ex_loadN (vs := r.k.cs ++ r.d.cs) 58 20 row58 siz58 rfl rfl (unhide HRr) rfl rfl) ?_); simp only [Act.put, List.setIfInBounds_toArray, List.set_cons_succ, List.set_cons_zero]) | ((with_reducible apply st (vs := (r.k.cs ++ r.d.cs)) (v := .agg (r.k.cs ++ r.d.cs).toArray) (b := B) (p := 0) 0 58); (case hw => rfl); (case ho => rfl); (case hx => rfl); (case hy => rfl); (case hv => rfl); (case h1 => exact onekd _ _); (case hi => exact siz58v _ rfl); (case hL => exact unhide LL); (case hg => rfl); (case hp => simp [zeroK, zeroD, zeroV, KK.cs, DD.cs, VV.cs]); (case hE => exact Or.inr (unhide HBle)); intro w3 L3 hf3 hs3; replace LL := hide L3; have HF3 := hide hf3; clear L3 hf3 hs3; simp only [Act.put, List.setIfInBounds_toArray, List.set_cons_succ, List.set_cons_zero])))
  refine ret_ct58 (vs := r.k.cs ++ r.d.cs) (r := 4) (q := 5) (b := B) rfl rfl rfl rfl ((unhide LL).get 0 rfl) rfl rfl ⟨rfl, _, ⟨(unhide HT2).fr (unhide HF3) (unhide HNE), rfl, rfl, (unhide LL).fr, unhide HNW⟩, TT.packed_live _ _ _⟩
end Go.Proofs.YtpbdidnphkkenaaGreatDoor

/-! Oj -/
namespace Go.Proofs.YtpbdidnphkkenaaGreatDoor
open Go Go.Proofs Go.Maps Go.RowKit
set_option linter.unusedSimpArgs false
set_option linter.unusedVariables false
set_option maxHeartbeats 1000000
/-- A table of which nothing is known but that it can be added to. -/
structure Loose (W : World) (t m : Nat) (rv : Value) (n : Nat) (ps : List Nat) : Prop where
  tab : Holds W t [.map (some m), rv, .int .u64 n]
  map : ∃ sz F, MapIs W m n sz F
  own : OwnP W rv ps
  len : ps.length ≤ n
  tm : t ≠ m
  ap : ∀ g, rv.ownBlock = some g → g ≠ t ∧ g ≠ m
def lb (t m : Nat) (rv : Value) : List Nat := t :: m :: rv.ownBlock.toList
theorem Loose.lt {W : World} {t m : Nat} {rv : Value} {n : Nat} {ps : List Nat} (h : Loose W t m rv n ps) : ∀ b ∈ lb t m rv, b < W.heap.size := by
  intro b hb
  simp only [lb, List.mem_cons] at hb
  rcases hb with rfl | rfl | hb
  · exact h.tab.lt (by simp)
  · obtain ⟨sz, F, hm⟩ := h.map
    exact hm.lt
  · exact (World.ownsRow.lt h.own b (by simpa using hb)).2
theorem Loose.block {W W' : World} {t m : Nat} {rv : Value} {n : Nat} {ps : List Nat} (h : Loose W t m rv n ps) (he : ∀ b ∈ lb t m rv, W'.heap[b]? = W.heap[b]?) : Loose W' t m rv n ps := by
  obtain ⟨h1, ⟨sz, F, h2⟩, h3, h4, h5, h6⟩ := h
  exact ⟨h1.block (he _ (by simp [lb])), ⟨sz, F, h2.block (he _ (by simp [lb]))⟩, h3.block (fun g hg => he g (by simp [lb, hg])), h4, h5, h6⟩
/-- The map and the rows of such a table. -/
def LM (m : Nat) (n : Nat) (v : Value) (ps : List Nat) (sz : Nat) (F : KK → Option Nat) (W : World) : Prop := MapIs W m n sz F ∧ OwnP W v ps
theorem LM.block {m n sz : Nat} {v : Value} {ps : List Nat} {F : KK → Option Nat} {W W' : World} (h : LM m n v ps sz F W) (he : ∀ b, b = m ∨ v.ownBlock = some b → W'.heap[b]? = W.heap[b]?) : LM m n v ps sz F W' :=
  ⟨h.1.block (he _ (.inl rfl)), h.2.block (fun g hg => he g (.inr hg))⟩
theorem LM.lt {m n sz : Nat} {v : Value} {ps : List Nat} {F : KK → Option Nat} {W : World} (h : LM m n v ps sz F W) : ∀ b, b = m ∨ v.ownBlock = some b → b < W.heap.size := by
  intro b hb
  rcases hb with rfl | hb
  · exact h.1.lt
  · exact (World.ownsRow.lt h.2 b hb).2
theorem LM.on {m n sz : Nat} {v : Value} {ps : List Nat} {F : KK → Option Nat} {W W' : World} (h : LM m n v ps sz F W) (hb : Below W.heap.size W W') : LM m n v ps sz F W' := h.block (fun b hb' => hb.block b (h.lt b hb'))
theorem LM.fr {m n sz : Nat} {v : Value} {ps : List Nat} {F : KK → Option Nat} {W W' : World} {E : List Nat} (h : LM m n v ps sz F W) (hf : Fr W W' E) (hE : ∀ b, b = m ∨ v.ownBlock = some b → b ∉ E) : LM m n v ps sz F W' := h.block (fun b hb => hf.block b (h.lt b hb) (hE b hb))
theorem fourw {t n R B : Nat} {c1 c2 c3 c4 : List Value} {q : Nat × List Value} (hq : q ∈ [(t, c1), (n, c2), (R, c3), (B, c4)]) (hR : n ≤ R) (hB : n ≤ B) : q.1 = t ∨ n ≤ q.1 := by
  simp only [List.mem_cons, List.not_mem_nil, or_false] at hq
  rcases hq with rfl | rfl | rfl | rfl
  · exact .inl rfl
  · exact .inr (Nat.le_refl _)
  · exact .inr hR
  · exact .inr hB
theorem not_rvw {t m n b : Nat} {rv : Value} (hlt : ∀ b ∈ lb t m rv, b < n) (hap : ∀ g, rv.ownBlock = some g → g ≠ t ∧ g ≠ m) (hb : b = t ∨ n ≤ b) (hm : b ∈ rv.ownBlock.toList) : False := by
  have h1 : rv.ownBlock = some b := by simpa using hm
  rcases hb with hb | hb
  · exact (hap b h1).1 hb
  · have := hlt b (by simp only [lb, List.mem_cons]; exact .inr (.inr hm))
    omega
theorem not_mw {t m n b : Nat} {rv : Value} (hlt : ∀ b ∈ lb t m rv, b < n) (htm : t ≠ m) (hb : b = t ∨ n ≤ b) (hm : b ∈ [m]) : False := by
  obtain e : b = m := by simpa using hm
  rcases hb with hb | hb
  · exact htm (hb.symm.trans e)
  · have := hlt m (by simp [lb])
    omega
theorem freshw {t m n R : Nat} {rv v : Value} {X : World} (hlt : ∀ b ∈ lb t m rv, b < n) (hap : ∀ g, rv.ownBlock = some g → g ≠ t ∧ g ≠ m) (hf : Fresh X rv v) (hR : R < X.heap.size) (hs : n ≤ X.heap.size) (hR2 : n ≤ R) : ∀ g, v.ownBlock = some g → (rv.ownBlock = some g ∨ n ≤ g) ∧ g ≠ t := by
  intro g hg
  have ht := hlt t (by simp [lb])
  rcases hf with h | h
  · rw [hg] at h
    exact ⟨.inl h.symm, (hap g h.symm).1⟩
  · rw [hg] at h
    have := Option.some.inj h
    exact ⟨.inr (by omega), by omega⟩
set_option maxRecDepth 100000 in
theorem add34w (t m : Nat) (rv : Value) (n : Nat) (ps : List Nat) (k : KK) (d : DD) (w : World) (hT : Loose w t m rv n ps) (hk : OkK k) (hn : n < 1000000) : Calls Tryz.prog 34 #[.pointer (some ⟨t, 0, none⟩), .agg (k.cs ++ d.cs).toArray] w fun e w' => e = .returned (.tuple #[]) ∧ ∃ rv' R, Loose w' t m rv' (n + 1) (ps ++ [R]) ∧ Fr w w' (lb t m rv) ∧ (∀ g, rv'.ownBlock = some g → rv.ownBlock = some g ∨ w.heap.size ≤ g) := by
  obtain ⟨sz, F, hM⟩ := hT.map
  have bl0 := (Below.refl w.heap.size w).alloc (Nat.le_refl _) (Obj.cells (k.cs ++ d.cs).toArray 58)
  have LL := hide (((Hq.nil w (lb t m rv)).add hT.tab (Nat.succ_pos _) (fun q hq => by cases hq)).new (k.cs ++ d.cs) 58 (Nat.succ_pos _))
  have MM : Hid (LM m n rv ps sz F (w.alloc (Obj.cells (k.cs ++ d.cs).toArray 58))) := hide (LM.on ⟨hM, hT.own⟩ bl0)
  have HLT := hide hT.lt
  have HAP := hide hT.ap
  have HTM := hide hT.tm
  have hlen := hT.len
  have hl2 : Hid (n < 1000000) := hide hn
  have hl3 : Hid (ps.length + 1 ≤ 1000000 ∧ ps.length ≤ n) := hide ⟨by omega, hlen⟩
  have hk2 := hide hk
  have htE : Hid (∀ b ∈ [t], b ∈ lb t m rv ∨ w.heap.size ≤ b) := hide (fun b hb => .inl (by obtain rfl : b = t := (by simpa using hb); simp [lb]))
  clear hT hn hk hM bl0 hlen
  go_enter Tryz.func34, Tryz.ntmps34
  go_wp2_with (first | go_skip | ((with_reducible show wpList _ _ _ _ _ _); first | ((refine rd (by rfl) (ex_load1 71 Tryz.isAgg71 rfl rfl ((unhide LL).get 0 rfl) rfl) ?_); simp only [Act.put, List.setIfInBounds_toArray, List.set_cons_succ, List.set_cons_zero]) | ((refine rd (by rfl) (ex_addu rfl rfl rfl (unhide hl2)) ?_); simp only [Act.put, List.setIfInBounds_toArray, List.set_cons_succ, List.set_cons_zero]) | ((refine st (vs := [.int .u64 ((n : Int) + 1)]) 0 71 (by rfl) rfl rfl rfl rfl (by simp [Value.oneCell']) siz71 (unhide LL) rfl (by simp [cput]) (Or.inl (List.mem_cons_self ..)) ?_); intro w3 L3 hf3 hs3; replace LL := hide L3; replace MM := hide ((unhide MM).fr hf3 (fun b hb hm => by obtain e : b = t := (by simpa using hm); rcases hb with hb | hb; exact (unhide HTM) (e.symm.trans hb); exact ((unhide HAP) b hb).1 e)); clear L3 hf3 hs3; simp only [Act.put, List.setIfInBounds_toArray, List.set_cons_succ, List.set_cons_zero])))
  obtain ⟨R, hRe⟩ : ∃ R, R = w3.drew.heap.size := ⟨_, rfl⟩
  refine wp_region_held_drew (P := Tryz.prog) (S := fun X => Hq w X (lb t m rv) [(t, [.map (some m), rv, .int .u64 ((n : Int) + 1)]), (w.heap.size, (k.cs ++ d.cs))]) (by kernel_rfl) (unhide LL).drew (fun hS0 => ?_)
  refine gsem 0 (some 12) (.agg (k.cs ++ d.cs).toArray) rfl (by kernel_rfl) (by kernel_rfl) (by kernel_rfl) (fun _ _ _ h => h) (by kernel_rfl) (by kernel_rfl) (fun X hX => ex_loadN (vs := (k.cs ++ d.cs)) 58 20 row58 siz58 rfl rfl (hX.get 1 rfl) rfl rfl) hS0 ?_
  simp only [Act.put, List.setIfInBounds_toArray, List.set_cons_succ, List.set_cons_zero]
  refine gsem 1 (some 13) (.pointer (some ⟨t, 0, none⟩)) rfl (by kernel_rfl) (by kernel_rfl) (by kernel_rfl) (fun _ _ _ h => h) (by kernel_rfl) (by kernel_rfl) (fun _ _ => by kernel_rfl) hS0 ?_
  simp only [Act.put, List.setIfInBounds_toArray, List.set_cons_succ, List.set_cons_zero]
  refine gsem 2 (some 14) (.pointer (some ⟨t, 0, none⟩)) rfl (by kernel_rfl) (by kernel_rfl) (by kernel_rfl) (fun _ _ _ h => h) (by kernel_rfl) (by kernel_rfl) (fun _ _ => by kernel_rfl) hS0 ?_
  simp only [Act.put, List.setIfInBounds_toArray, List.set_cons_succ, List.set_cons_zero]
  refine gsem 3 (some 15) (.pointer (some ⟨t, 2, none⟩)) rfl (by kernel_rfl) (by kernel_rfl) (by kernel_rfl) (fun _ _ _ h => h) (by kernel_rfl) (by kernel_rfl) (fun _ _ => by kernel_rfl) hS0 ?_
  simp only [Act.put, List.setIfInBounds_toArray, List.set_cons_succ, List.set_cons_zero]
  refine gsem 4 (some 16) (.int .u64 ((n : Int) + 1)) rfl (by kernel_rfl) (by kernel_rfl) (by kernel_rfl) (fun _ _ _ h => h) (by kernel_rfl) (by kernel_rfl) (fun X hX => ex_load1 71 Tryz.isAgg71 rfl rfl (hX.get 0 rfl) rfl) hS0 ?_
  simp only [Act.put, List.setIfInBounds_toArray, List.set_cons_succ, List.set_cons_zero]
  refine gsem 5 (some 17) (.agg (RR.mk R k d (n + 1) false).cs.toArray) rfl (by kernel_rfl) (by kernel_rfl) (by kernel_rfl) (fun _ _ _ h => h) (by kernel_rfl) (by kernel_rfl) (fun _ _ => by kernel_rfl) hS0 ?_
  simp only [Act.put, List.setIfInBounds_toArray, List.set_cons_succ, List.set_cons_zero]
  have bl := (Below.refl w3.drew.heap.size w3.drew).alloc (Nat.le_refl _) (Obj.cells (RR.mk R k d (n + 1) false).cs.toArray 77)
  have L2 := hS0.new (RR.mk R k d (n + 1) false).cs 77 (Nat.succ_pos _)
  refine wpAnyH_ready (rs := [6]) (by kernel_rfl) (by simp) (gval 6 (some 18) rfl (by kernel_rfl) (by kernel_rfl) (ex_box 77 (RR.mk R k d (n + 1) false).cs rfl rfl rfl) (hS0.on bl) ?_ AllReadyH.nil)
  have hR : Hid (w.heap.size ≤ R) := hide (Nat.le_trans hS0.fr.size (Nat.le_of_eq hRe.symm))
  replace hS0 := hS0.on bl
  replace MM := hide (((unhide MM).block (W' := w3.drew) (fun _ _ => rfl)).on bl)
  simp only [Act.put, List.setIfInBounds_toArray, List.set_cons_succ, List.set_cons_zero]
  rw [← hRe] at L2 ⊢
  clear bl
  generalize w3.drew.alloc (Obj.cells (RR.mk R k d (n + 1) false).cs.toArray 77) = w4 at *
  clear hRe
  refine gsem 7 (some 4) (.pointer (some ⟨R, 0, none⟩)) rfl (by kernel_rfl) (by kernel_rfl) (by kernel_rfl) (fun _ _ _ h => h) (by kernel_rfl) (by kernel_rfl) (fun _ _ => by kernel_rfl) hS0 ?_
  simp only [Act.put, List.setIfInBounds_toArray, List.set_cons_succ, List.set_cons_zero]
  refine wpAnyH_done (by kernel_rfl) ?_ _
  try simp only [Act.put, List.setIfInBounds_toArray, List.set_cons_succ, List.set_cons_zero]
  replace LL := hide L2
  clear hS0 L2
  go_wp2_with (first | go_skip | ((with_reducible show wpList _ _ _ _ _ _); first | ((refine rd (by rfl) (ex_load1 70 Tryz.isAgg70 rfl rfl ((unhide LL).get 0 rfl) rfl) ?_); simp only [Act.put, List.setIfInBounds_toArray, List.set_cons_succ, List.set_cons_zero]) | ((refine build_any (t := 70) (e := 74) (size := 1) (bytes := 8) (z := .pointer none) (cs := [.pointer (some ⟨R, 0, none⟩)]) (by rfl) rfl rfl Tryz.underlying70 info74 (by decide) rfl rfl (by decide) (unhide LL) ?_); intro w5 B5 hB5 L5 hb5; have hB5 := hide (Nat.le_trans (unhide LL).fr.size (Nat.le_of_eq hB5.symm)); replace LL := hide L5; replace MM := hide ((unhide MM).on hb5); clear L5 hb5; simp only [Act.put, List.setIfInBounds_toArray, List.set_cons_succ, List.set_cons_zero]) | ((refine append_any (v := rv) rfl rfl rfl rfl Tryz.underlying70 info74 rfl (by decide) (unhide MM).2 ((unhide LL).get 3 rfl) rfl (by simp [Value.oneCell']) (unhide hl3).1 (by decide) (Nat.zero_le _) ?_); intro A6 c6 w6 ho6 hg6 hf6; have V6 := hide (freshw (unhide HLT) (unhide HAP) hf6 ((unhide LL).lt (R, (RR.mk R k d (n + 1) false).cs) (by simp)) (unhide LL).fr.size (unhide hR)); have HO6 : Hid (w6.ownsRow 0 74 1 (.slice A6 (ps.length + 1) c6) (ps.length + 1) (ptrs (ps ++ [R]))) := hide (by have h := ho6; unfold ptrs at h ⊢; rw [List.map_append]; exact h); have HM6 : Hid (MapIs w6 m n sz F) := hide ((unhide MM).1.block (hg6.block m (unhide MM).1.lt (fun e => ((unhide HAP) m e.symm).2 rfl))); replace LL := hide ((unhide LL).step (Fr.grown hg6) (fun b hb => Or.inl (by simp only [lb, List.mem_cons]; exact Or.inr (Or.inr hb))) (fun q hq hm => not_rvw (unhide HLT) (unhide HAP) (fourw hq (unhide hR) (unhide hB5)) hm)); clear MM ho6 hg6 hf6; simp only [Act.put, List.setIfInBounds_toArray, List.set_cons_succ, List.set_cons_zero]) | ((refine st (vs := [.slice A6 _ c6]) 0 70 (by rfl) rfl rfl rfl rfl (by simp [Value.oneCell']) siz70 (unhide LL) rfl (by simp [cput]) (Or.inl (List.mem_cons_self ..)) ?_); intro w7 L7 hf7 hs7; replace LL := hide L7; replace HO6 := hide (own_block (w' := w7) (unhide HO6) (fun g hg => hf7.block g (World.ownsRow.lt (unhide HO6) g hg).2 (fun hm => ((unhide V6) g hg).2 (by simpa using hm)))); replace HM6 := hide ((unhide HM6).block (hf7.block m (unhide HM6).lt (fun hm => (unhide HTM) (by simpa using (by simpa using hm : m = t).symm)))); clear L7 hf7 hs7; simp only [Act.put, List.setIfInBounds_toArray, List.set_cons_succ, List.set_cons_zero])))
  refine wp_region_held_drew (P := Tryz.prog) (S := fun X => Hq w X (lb t m rv) [(t, [.map (some m), .slice A6 (ps.length + 1) c6, .int .u64 ((n : Int) + 1)]), (w.heap.size, (k.cs ++ d.cs)), (R, (RR.mk R k d (n + 1) false).cs), (B5, [.pointer (some ⟨R, 0, none⟩)])]) (by kernel_rfl) (unhide LL).drew (fun hS0 => ?_)
  refine gsem 0 (some 29) (.pointer (some ⟨t, 0, none⟩)) rfl (by kernel_rfl) (by kernel_rfl) (by kernel_rfl) (fun _ _ _ h => h) (by kernel_rfl) (by kernel_rfl) (fun _ _ => by kernel_rfl) hS0 ?_
  simp only [Act.put, List.setIfInBounds_toArray, List.set_cons_succ, List.set_cons_zero]
  refine gsem 1 (some 30) (.pointer (some ⟨t, 0, none⟩)) rfl (by kernel_rfl) (by kernel_rfl) (by kernel_rfl) (fun _ _ _ h => h) (by kernel_rfl) (by kernel_rfl) (fun _ _ => by kernel_rfl) hS0 ?_
  simp only [Act.put, List.setIfInBounds_toArray, List.set_cons_succ, List.set_cons_zero]
  refine gsem 2 (some 31) (.pointer (some ⟨t, 0, none⟩)) rfl (by kernel_rfl) (by kernel_rfl) (by kernel_rfl) (fun _ _ _ h => h) (by kernel_rfl) (by kernel_rfl) (fun _ _ => by kernel_rfl) hS0 ?_
  simp only [Act.put, List.setIfInBounds_toArray, List.set_cons_succ, List.set_cons_zero]
  refine gsem 3 (some 32) (.map (some m)) rfl (by kernel_rfl) (by kernel_rfl) (by kernel_rfl) (fun _ _ _ h => h) (by kernel_rfl) (by kernel_rfl) (fun X hX => ex_load1 69 Tryz.isAgg69 rfl rfl (hX.get 0 rfl) rfl) hS0 ?_
  simp only [Act.put, List.setIfInBounds_toArray, List.set_cons_succ, List.set_cons_zero]
  refine gsem 4 (some 33) (.pointer (some ⟨w.heap.size, 0, none⟩)) rfl (by kernel_rfl) (by kernel_rfl) (by kernel_rfl) (fun _ _ _ h => h) (by kernel_rfl) (by kernel_rfl) (fun _ _ => by kernel_rfl) hS0 ?_
  simp only [Act.put, List.setIfInBounds_toArray, List.set_cons_succ, List.set_cons_zero]
  refine gsem 5 (some 34) (k.agg) rfl (by kernel_rfl) (by kernel_rfl) (by kernel_rfl) (fun _ _ _ h => h) (by kernel_rfl) (by kernel_rfl) (fun X hX => ex_loadN (vs := k.cs) 33 2 row33x siz33 rfl rfl (hX.get 1 rfl) rfl rfl) hS0 ?_
  simp only [Act.put, List.setIfInBounds_toArray, List.set_cons_succ, List.set_cons_zero]
  refine gsem 6 (some 35) (.pointer (some ⟨R, 0, none⟩)) rfl (by kernel_rfl) (by kernel_rfl) (by kernel_rfl) (fun _ _ _ h => h) (by kernel_rfl) (by kernel_rfl) (fun _ _ => by kernel_rfl) hS0 ?_
  simp only [Act.put, List.setIfInBounds_toArray, List.set_cons_succ, List.set_cons_zero]
  refine wpAnyH_ready (rs := [7]) (by kernel_rfl) (by simp) (gupd (r := R) 7 rfl (by kernel_rfl) (by kernel_rfl) rfl rfl rfl rfl (unhide HM6).drew (unhide hk2) (by have h2 := unhide hl2; unfold maxLen; omega) (fun X hX => (hS0.step hX (fun b hb => Or.inl (by obtain rfl : b = m := (by simpa using hb); simp [lb])) (fun q hq hm => not_mw (unhide HLT) (unhide HTM) (fourw hq (unhide hR) (unhide hB5)) hm))) ?_ AllReadyH.nil)
  intro X hM hX
  replace hS0 := (hS0.step hX (fun b hb => Or.inl (by obtain rfl : b = m := (by simpa using hb); simp [lb])) (fun q hq hm => not_mw (unhide HLT) (unhide HTM) (fourw hq (unhide hR) (unhide hB5)) hm))
  have HM7 := hide hM
  have HO7 : Hid (X.ownsRow 0 74 1 (.slice A6 (ps.length + 1) c6) (ps.length + 1) (ptrs (ps ++ [R]))) := hide (own_block (w' := X) (own_block (w' := w7.drew) (unhide HO6) (fun _ _ => rfl)) (fun g hg => hX.block g (World.ownsRow.lt (unhide HO6) g hg).2 (fun hm => by obtain e : g = m := (by simpa using hm); rcases ((unhide V6) g hg).1 with h7 | h7; exact ((unhide HAP) g h7).2 e; have := (unhide HLT) m (by simp [lb]); omega)))
  clear hM hX HM6 HO6
  simp only [Act.put, List.setIfInBounds_toArray, List.set_cons_succ, List.set_cons_zero]
  refine wpAnyH_done (by kernel_rfl) ?_ _
  try simp only [Act.put, List.setIfInBounds_toArray, List.set_cons_succ, List.set_cons_zero]
  have LS := hide hS0
  clear hS0 LL
  go_wp2
  go_end0
  refine ⟨rfl, .slice A6 (ps.length + 1) c6, R, ⟨(unhide LS).get 0 rfl, ⟨_, _, unhide HM7⟩, ?_, by have := unhide hl3; simp; omega, unhide HTM, fun g hg => ?_⟩, (unhide LS).fr, fun g hg => ((unhide V6) g hg).1⟩
  · unfold OwnP
    rw [List.length_append]
    exact unhide HO7
  · have h6 := (unhide V6) g hg
    refine ⟨h6.2, fun e => ?_⟩
    rcases h6.1 with h7 | h7
    · exact ((unhide HAP) g h7).2 e
    · have := (unhide HLT) m (by simp [lb]); omega
end Go.Proofs.YtpbdidnphkkenaaGreatDoor
