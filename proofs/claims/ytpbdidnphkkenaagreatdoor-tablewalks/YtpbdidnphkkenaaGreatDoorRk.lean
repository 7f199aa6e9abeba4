import Derived.Test.YtpbdidnphkkenaaGreatDoorRj
set_option linter.all false
namespace Go.Proofs.YtpbdidnphkkenaaGreatDoor
set_option maxHeartbeats 1000000
section
open Go Go.Proofs Go.Maps Go.RowKit
/-- The document's table while a list is made of its own. -/
structure DQ (R : RT) (g cap : Nat) (w W : World) : Prop where
  tab : Holds W R.t [.slice (some ⟨g, 0, none⟩) R.es.length cap, .int .i64 R.nx]
  row : Holds W g (flatE R.es)
  fr : Fr w W []
  lt : R.t < w.heap.size ∧ g < w.heap.size
theorem DQ.step {R : RT} {g cap : Nat} {w W X : World} {E : List Nat} (h : DQ R g cap w W) (hf : Fr W X E) (hE : ∀ b ∈ E, w.heap.size ≤ b) : DQ R g cap w X :=
  ⟨h.tab.block (hf.block _ (Nat.lt_of_lt_of_le h.lt.1 h.fr.size) (fun hm => by have := hE _ hm; have := h.lt.1; omega)), h.row.block (hf.block _ (Nat.lt_of_lt_of_le h.lt.2 h.fr.size) (fun hm => by have := hE _ hm; have := h.lt.2; omega)), h.fr.trans hf (fun b hb => .inr (hE b hb)), h.lt⟩
theorem DQ.own {R : RT} {g cap : Nat} {w W X : World} {v : Value} {n : Nat} {xs : List Value} (h : DQ R g cap w W) (ho : W.ownsRow w.heap.size 82 21 v n xs) (hg : W.grownBy X v.ownBlock) : DQ R g cap w X :=
  h.step (Fr.grown hg) (fun b hb => (World.ownsRow.lt ho b (by simpa using hb)).1)
theorem DQ.head {R : RT} {g cap : Nat} {w W : World} (h : DQ R g cap w W) {a b : List EE} (he : R.es = a ++ b) : W.rangeAt g 0 (flatE a) := by
  have := h.row.2
  rw [he] at this
  unfold flatE at *
  rw [List.flatMap_append] at this
  exact range_left this
theorem DQ.tail {R : RT} {g cap : Nat} {w W : World} (h : DQ R g cap w W) {a b : List EE} {x : EE} (he : R.es = a ++ x :: b) {off : Nat} (ho : b.length ≠ 0 → off = (a.length + 1) * 21) : W.rangeAt g off (flatE b) := by
  cases b with
  | nil =>
    intro j v hv
    simp [flatE] at hv
  | cons y b =>
    have e := ho (by simp)
    have h1 := h.row.2
    have e2 : flatE (a ++ x :: y :: b) = flatE (a ++ [x]) ++ flatE (y :: b) := by
      unfold flatE
      rw [← List.flatMap_append]
      simp
    rw [he, e2] at h1
    have h2 := range_right h1
    have e3 : 0 + (flatE (a ++ [x])).length = off := by
      rw [flatE_len, e]
      simp
    rw [e3] at h2
    exact h2
/-- The document's table with another list of its own. -/
theorem DQ.fin {R : RT} {g cap : Nat} {w W : World} (h : DQ R g cap w W) {v : Value} {l : List EE} {A : Option Addr} {m c : Nat} (hv : v = .slice A m c) (hm : m = l.length) (ho : W.ownsRow w.heap.size 82 21 v m (flatE l)) : ∃ R', RT.To R R' w (W.setCells R.t 0 [v]) ∧ R'.es = l := by
  have hp := h.tab.put 0 [v] (by simp)
  have hb : ∀ b, v.ownBlock = some b → w.heap.size ≤ b := fun b hb => (World.ownsRow.lt ho b hb).1
  refine ⟨⟨R.t, v, l, R.nx⟩, ⟨⟨hp, ?_, ?_⟩, rfl, rfl, ?_, ?_⟩, rfl⟩
  · rw [← hm]
    exact own_mono (own_block ho (fun b hb' => heap_setCells _ _ _ _ _ (by have := hb b hb'; have := h.lt.1; omega))) (Nat.zero_le _)
  · unfold RT.blocks
    cases hv2 : v.ownBlock with
    | none => simp
    | some b =>
      have := hb b hv2
      have := h.lt.1
      simp
      omega
  · have hf : Fr w W R.blocks := h.fr.mono (fun b hb => by cases hb)
    exact hf.trans (Fr.setCells W R.t 0 [v]) (fun b hb => .inl (by obtain rfl : b = R.t := (by simpa using hb); simp [RT.blocks]))
  · intro b hb'
    unfold RT.blocks at hb' ⊢
    simp only [List.mem_cons] at hb' ⊢
    rcases hb' with h1 | h1
    · exact .inl (.inl h1)
    · exact .inr (hb b (by simpa using h1))
set_option maxRecDepth 100000 in
theorem refDelete_some (R : RT) (k : KK) (w : World) (hR : R.Is w) (hl : R.es.length ≤ 3000000) (a b : List EE) (x : EE) (he : R.es = a ++ x :: b) (hf : R.find k = some a.length) : Calls Tryz.prog 15 #[.pointer (some ⟨R.t, 0, none⟩), k.agg] w fun e w' => e = .returned (.bool true) ∧ ∃ R', RT.To R R' w w' ∧ R'.es = a ++ b := by
  have HR := hide (hR.on ((Below.refl _ _).alloc (Nat.le_refl _) (Obj.cells k.cs.toArray 33)))
  have LL := hide ((Hq.nil w R.blocks).new k.cs 33 (Nat.succ_pos _))
  have HC := hide (fun X hX => find36 R k X hX hl)
  have HLT := hide hR.lt
  obtain ⟨g, cap, hlv, hcap⟩ : ∃ g cap, R.lv = .slice (some ⟨g, 0, none⟩) R.es.length cap ∧ R.es.length ≤ cap := by
    rcases hR.own.2 with ⟨h1, h2⟩ | ⟨g, cap, cur, h1, h2, h3, h4, -⟩
    · rw [he] at h2; simp at h2
    · exact ⟨g, cap, h1, h4⟩
  have hlen : R.es.length = a.length + (b.length + 1) := by rw [he]; simp
  obtain ⟨i, hia⟩ : ∃ i, i = a.length := ⟨_, rfl⟩
  obtain ⟨off, hoff, hsl⟩ := slice46_l g R.es.length cap (i + 1) (by omega) (by omega) w
  have HSL := hide hsl
  have HSH := hide (fun w => slice46_h g R.es.length cap i (by omega) (by omega) w)
  have HD : Hid (∀ X, R.Is X → Fr w X [] → DQ R g cap w X) := hide (fun X hX hf => ⟨by have := hX.tab; unfold RT.cs at this; rw [hlv] at this; exact this, own_holds (hlv ▸ hX.own), hf, hR.lt R.t (by simp [RT.blocks]), hR.lt g (by unfold RT.blocks; rw [hlv]; simp [Value.ownBlock])⟩)
  have hn1 : i < 4000000 := by omega
  have H8 : Hid (∀ W, DQ R g cap w W → W.rangeAt g 0 (flatE a)) := hide (fun W hW => hW.head he)
  have H16 : Hid (∀ W, DQ R g cap w W → W.rangeAt g off (flatE b)) := hide (fun W hW => hW.tail he (fun hb => by rw [← hia]; exact hoff (by omega)))
  have HL8 : Hid ((flatE a).length = i * 21 ∧ 0 + i ≤ 4000000) := hide ⟨by rw [flatE_len, hia], by omega⟩
  have HL16 : Hid ((flatE b).length = (R.es.length - (i + 1)) * 21 ∧ (0 + i) + (R.es.length - (i + 1)) ≤ 4000000 ∧ (0 + i) + (R.es.length - (i + 1)) = (a ++ b).length) := hide ⟨by rw [flatE_len]; congr 1; omega, by omega, by rw [List.length_append]; omega⟩
  have HFL : Hid (([] ++ flatE a) ++ flatE b = flatE (a ++ b)) := hide (by unfold flatE; rw [List.flatMap_append]; simp)
  rw [hf, ← hia] at HC
  rw [show fI (some i) = (i : Int) from rfl] at HC
  have hiz : ¬ (i : Int) < 0 := by omega
  clear hf hlv he hlen hia hoff hsl hcap hl
  clear hR
  rw [show k.agg = .agg k.cs.toArray from rfl]
  go_enter Tryz.func15, Tryz.ntmps15
  go_wp2_with (first | go_skip | ((refine rd (by rfl) (ex_loadN (vs := k.cs) 33 2 row33x siz33 rfl rfl ((unhide LL).get 0 rfl) rfl rfl) ?_); simp only [Act.put, nzA, nzB, nzC]))
  refine ((unhide HC) _ (unhide HR)).mono ?_
  rintro _ w2 ⟨rfl, hb⟩
  have HDD := hide ((unhide HD) w2 ((unhide HR).on hb) (((Fr.of_below ((Below.refl w.heap.size w).alloc (Nat.le_refl _) (Obj.cells k.cs.toArray 33)) []).on hb)))
  clear hb HR LL HD HC
  go_wp2
  refine wp_region_held_drew (P := Tryz.prog) (S := fun _ => True) (by kernel_rfl) trivial (fun hS0 => ?_)
  refine gsem 0 (some 11) (.pointer (some ⟨R.t, 0, none⟩)) rfl (by kernel_rfl) (by kernel_rfl) (by kernel_rfl) (fun _ _ _ h => h) (by kernel_rfl) (by kernel_rfl) (fun _ _ => by kernel_rfl) hS0 ?_
  simp only [Act.put, nzA, nzB, nzC]
  refine gsem 2 (some 13) (.pointer (some ⟨R.t, 0, none⟩)) rfl (by kernel_rfl) (by kernel_rfl) (by kernel_rfl) (fun _ _ _ h => h) (by kernel_rfl) (by kernel_rfl) (fun _ _ => by kernel_rfl) hS0 ?_
  simp only [Act.put, nzA, nzB, nzC]
  refine gsem 3 (some 14) (.pointer (some ⟨R.t, 0, none⟩)) rfl (by kernel_rfl) (by kernel_rfl) (by kernel_rfl) (fun _ _ _ h => h) (by kernel_rfl) (by kernel_rfl) (fun _ _ => by kernel_rfl) hS0 ?_
  simp only [Act.put, nzA, nzB, nzC]
  refine gsem 4 (some 15) (.pointer (some ⟨R.t, 0, none⟩)) rfl (by kernel_rfl) (by kernel_rfl) (by kernel_rfl) (fun _ _ _ h => h) (by kernel_rfl) (by kernel_rfl) (fun _ _ => by kernel_rfl) hS0 ?_
  simp only [Act.put, nzA, nzB, nzC]
  refine gsem 6 (some 17) (.int .i64 (i : Nat)) rfl (by kernel_rfl) (by kernel_rfl) (by kernel_rfl) (fun _ _ _ h => h) (by kernel_rfl) (by kernel_rfl) (fun _ _ => by kernel_rfl) hS0 ?_
  simp only [Act.put, nzA, nzB, nzC]
  refine gsem 9 (some 20) (.pointer (some ⟨R.t, 0, none⟩)) rfl (by kernel_rfl) (by kernel_rfl) (by kernel_rfl) (fun _ _ _ h => h) (by kernel_rfl) (by kernel_rfl) (fun _ _ => by kernel_rfl) hS0 ?_
  simp only [Act.put, nzA, nzB, nzC]
  refine gsem 10 (some 21) (.pointer (some ⟨R.t, 0, none⟩)) rfl (by kernel_rfl) (by kernel_rfl) (by kernel_rfl) (fun _ _ _ h => h) (by kernel_rfl) (by kernel_rfl) (fun _ _ => by kernel_rfl) hS0 ?_
  simp only [Act.put, nzA, nzB, nzC]
  refine gsem 11 (some 22) (.pointer (some ⟨R.t, 0, none⟩)) rfl (by kernel_rfl) (by kernel_rfl) (by kernel_rfl) (fun _ _ _ h => h) (by kernel_rfl) (by kernel_rfl) (fun _ _ => by kernel_rfl) hS0 ?_
  simp only [Act.put, nzA, nzB, nzC]
  refine gsem 13 (some 24) (.int .i64 (i : Nat)) rfl (by kernel_rfl) (by kernel_rfl) (by kernel_rfl) (fun _ _ _ h => h) (by kernel_rfl) (by kernel_rfl) (fun _ _ => by kernel_rfl) hS0 ?_
  simp only [Act.put, nzA, nzB, nzC]
  refine gsem 14 (some 25) (.int .i64 ((i + 1 : Nat) : Int)) rfl (by kernel_rfl) (by kernel_rfl) (by kernel_rfl) (fun _ _ _ h => h) (by kernel_rfl) (by kernel_rfl) (fun X hX => ex_add1 rfl rfl rfl hn1) hS0 ?_
  simp only [Act.put, nzA, nzB, nzC]
  have hD : DQ R g cap w w2.drew := (unhide HDD).step (Fr.refl w2 []).drew (fun b hb => by cases hb)
  clear HDD
  refine wpAnyH_ready (rs := [1, 5, 12]) (by kernel_rfl) (by simp) (gval 1 (some 12) rfl (by kernel_rfl) (by kernel_rfl) (ex_none46 rfl) trivial ?_ (gval 5 (some 16) rfl (by kernel_rfl) (by kernel_rfl) (ex_load1 46 Tryz.isAgg46 rfl rfl hD.tab rfl) trivial ?_ (gval 12 (some 23) rfl (by kernel_rfl) (by kernel_rfl) (ex_load1 46 Tryz.isAgg46 rfl rfl hD.tab rfl) trivial ?_ AllReadyH.nil)))
  · have h12 := own_none w2.drew w.heap.size 82 21 hD.fr.size
    have hD := hD.step (Fr.of_below ((Below.refl _ _).alloc (Nat.le_refl _) (Obj.cells #[] 82)) []) (fun b hb => by cases hb)
    generalize (w2.drew).alloc (Obj.cells #[] 82) = x1 at *
    generalize (w2.drew).heap.size = B at *
    simp only [Act.put, nzA, nzB, nzC]
    refine wpAnyH_ready (rs := [5, 12]) (by kernel_rfl) (by simp) (gval 5 (some 16) rfl (by kernel_rfl) (by kernel_rfl) (ex_load1 46 Tryz.isAgg46 rfl rfl hD.tab rfl) trivial ?_ (gval 12 (some 23) rfl (by kernel_rfl) (by kernel_rfl) (ex_load1 46 Tryz.isAgg46 rfl rfl hD.tab rfl) trivial ?_ AllReadyH.nil))
    · simp only [Act.put, nzA, nzB, nzC]
      refine gsem 7 (some 18) (.slice (some ⟨g, 0, none⟩) i cap) rfl (by kernel_rfl) (by kernel_rfl) (by kernel_rfl) (fun _ _ _ h => h) (by kernel_rfl) (by kernel_rfl) (fun X hX => ex_slice46h rfl rfl rfl ((unhide HSH) X)) trivial ?_
      simp only [Act.put, nzA, nzB, nzC]
      refine wpAnyH_ready (rs := [8, 12]) (by kernel_rfl) (by simp) (gappG 8 (some 19) (v := .slice (some ⟨B, 0, none⟩) 0 0) (B := g) (off := 0) (m := i) (c := cap) (news := flatE a) rfl (by kernel_rfl) (by kernel_rfl) rfl rfl rfl Tryz.underlying46 info82w rfl (by decide) h12 ((unhide H8) _ hD) (unhide HL8).1 (oneE a) (unhide HL8).2 (by decide) hD.fr.size (fun _ _ => trivial) ?_ (gval 12 (some 23) rfl (by kernel_rfl) (by kernel_rfl) (ex_load1 46 Tryz.isAgg46 rfl rfl hD.tab rfl) trivial ?_ AllReadyH.nil))
      · intro A8 c8 x8 h19 hg8 hf8
        have hD := hD.own h12 hg8
        clear hg8 hf8 h12
        simp only [Act.put, nzA, nzB, nzC]
        refine wpAnyH_ready (rs := [12]) (by kernel_rfl) (by simp) (gval 12 (some 23) rfl (by kernel_rfl) (by kernel_rfl) (ex_load1 46 Tryz.isAgg46 rfl rfl hD.tab rfl) trivial ?_ AllReadyH.nil)
        simp only [Act.put, nzA, nzB, nzC]
        refine gsem 15 (some 26) (.slice (some ⟨g, off, none⟩) (R.es.length - (i + 1)) (cap - (i + 1))) rfl (by kernel_rfl) (by kernel_rfl) (by kernel_rfl) (fun _ _ _ h => h) (by kernel_rfl) (by kernel_rfl) (fun X hX => ex_slice46l rfl rfl rfl ((unhide HSL) X)) trivial ?_
        simp only [Act.put, nzA, nzB, nzC]
        refine wpAnyH_ready (rs := [16]) (by kernel_rfl) (by simp) (gappG 16 (some 27) (v := .slice A8 (0 + i) c8) (B := g) (off := off) (m := R.es.length - (i + 1)) (c := cap - (i + 1)) (news := flatE b) rfl (by kernel_rfl) (by kernel_rfl) rfl rfl rfl Tryz.underlying46 info82w rfl (by decide) h19 ((unhide H16) _ hD) (unhide HL16).1 (oneE b) (unhide HL16).2.1 (by decide) hD.fr.size (fun _ _ => trivial) ?_ AllReadyH.nil)
        intro A9 c9 x9 h27 hg9 hf9
        have hD := hD.own h19 hg9
        clear hg9 hf9 h19
        simp only [Act.put, nzA, nzB, nzC]
        refine gsem 17 (some 28) (.pointer (some ⟨R.t, 0, none⟩)) rfl (by kernel_rfl) (by kernel_rfl) (by kernel_rfl) (fun _ _ _ h => h) (by kernel_rfl) (by kernel_rfl) (fun _ _ => by kernel_rfl) trivial ?_
        simp only [Act.put, nzA, nzB, nzC]
        refine gsem 18 (some 29) (.pointer (some ⟨R.t, 0, none⟩)) rfl (by kernel_rfl) (by kernel_rfl) (by kernel_rfl) (fun _ _ _ h => h) (by kernel_rfl) (by kernel_rfl) (fun _ _ => by kernel_rfl) trivial ?_
        simp only [Act.put, nzA, nzB, nzC]
        refine wpAnyH_ready (rs := [19]) (by kernel_rfl) (by simp) (gskp 19 none rfl (by kernel_rfl) (by kernel_rfl) (ex_store (t := 46) (vs := [.slice A9 (0 + i + (R.es.length - (i + 1))) c9]) rfl rfl rfl rfl (by simp [Value.oneCell']) siz46 hD.tab (by simp)) trivial ?_ AllReadyH.nil)
        simp only [Act.put, nzA, nzB, nzC]
        refine wpAnyH_done (by kernel_rfl) ?_ _
        try simp only [Act.put, nzA, nzB, nzC]
        have HF := hide (hD.fin rfl (unhide HL16).2.2 (by rw [← unhide HFL]; exact h27))
        clear hD h27
        generalize World.setCells _ _ _ _ = x10 at *
        go_wp2
        go_ret
        exact ⟨rfl, unhide HF⟩
      · simp only [Act.put, nzA, nzB, nzC]
        refine gsem 15 (some 26) (.slice (some ⟨g, off, none⟩) (R.es.length - (i + 1)) (cap - (i + 1))) rfl (by kernel_rfl) (by kernel_rfl) (by kernel_rfl) (fun _ _ _ h => h) (by kernel_rfl) (by kernel_rfl) (fun X hX => ex_slice46l rfl rfl rfl ((unhide HSL) X)) trivial ?_
        simp only [Act.put, nzA, nzB, nzC]
        refine wpAnyH_ready (rs := [8]) (by kernel_rfl) (by simp) (gappG 8 (some 19) (v := .slice (some ⟨B, 0, none⟩) 0 0) (B := g) (off := 0) (m := i) (c := cap) (news := flatE a) rfl (by kernel_rfl) (by kernel_rfl) rfl rfl rfl Tryz.underlying46 info82w rfl (by decide) h12 ((unhide H8) _ hD) (unhide HL8).1 (oneE a) (unhide HL8).2 (by decide) hD.fr.size (fun _ _ => trivial) ?_ AllReadyH.nil)
        intro A8 c8 x8 h19 hg8 hf8
        have hD := hD.own h12 hg8
        clear hg8 hf8 h12
        simp only [Act.put, nzA, nzB, nzC]
        refine wpAnyH_ready (rs := [16]) (by kernel_rfl) (by simp) (gappG 16 (some 27) (v := .slice A8 (0 + i) c8) (B := g) (off := off) (m := R.es.length - (i + 1)) (c := cap - (i + 1)) (news := flatE b) rfl (by kernel_rfl) (by kernel_rfl) rfl rfl rfl Tryz.underlying46 info82w rfl (by decide) h19 ((unhide H16) _ hD) (unhide HL16).1 (oneE b) (unhide HL16).2.1 (by decide) hD.fr.size (fun _ _ => trivial) ?_ AllReadyH.nil)
        intro A9 c9 x9 h27 hg9 hf9
        have hD := hD.own h19 hg9
        clear hg9 hf9 h19
        simp only [Act.put, nzA, nzB, nzC]
        refine gsem 17 (some 28) (.pointer (some ⟨R.t, 0, none⟩)) rfl (by kernel_rfl) (by kernel_rfl) (by kernel_rfl) (fun _ _ _ h => h) (by kernel_rfl) (by kernel_rfl) (fun _ _ => by kernel_rfl) trivial ?_
        simp only [Act.put, nzA, nzB, nzC]
        refine gsem 18 (some 29) (.pointer (some ⟨R.t, 0, none⟩)) rfl (by kernel_rfl) (by kernel_rfl) (by kernel_rfl) (fun _ _ _ h => h) (by kernel_rfl) (by kernel_rfl) (fun _ _ => by kernel_rfl) trivial ?_
        simp only [Act.put, nzA, nzB, nzC]
        refine wpAnyH_ready (rs := [19]) (by kernel_rfl) (by simp) (gskp 19 none rfl (by kernel_rfl) (by kernel_rfl) (ex_store (t := 46) (vs := [.slice A9 (0 + i + (R.es.length - (i + 1))) c9]) rfl rfl rfl rfl (by simp [Value.oneCell']) siz46 hD.tab (by simp)) trivial ?_ AllReadyH.nil)
        simp only [Act.put, nzA, nzB, nzC]
        refine wpAnyH_done (by kernel_rfl) ?_ _
        try simp only [Act.put, nzA, nzB, nzC]
        have HF := hide (hD.fin rfl (unhide HL16).2.2 (by rw [← unhide HFL]; exact h27))
        clear hD h27
        generalize World.setCells _ _ _ _ = x10 at *
        go_wp2
        go_ret
        exact ⟨rfl, unhide HF⟩
    · simp only [Act.put, nzA, nzB, nzC]
      refine gsem 15 (some 26) (.slice (some ⟨g, off, none⟩) (R.es.length - (i + 1)) (cap - (i + 1))) rfl (by kernel_rfl) (by kernel_rfl) (by kernel_rfl) (fun _ _ _ h => h) (by kernel_rfl) (by kernel_rfl) (fun X hX => ex_slice46l rfl rfl rfl ((unhide HSL) X)) trivial ?_
      simp only [Act.put, nzA, nzB, nzC]
      refine wpAnyH_ready (rs := [5]) (by kernel_rfl) (by simp) (gval 5 (some 16) rfl (by kernel_rfl) (by kernel_rfl) (ex_load1 46 Tryz.isAgg46 rfl rfl hD.tab rfl) trivial ?_ AllReadyH.nil)
      simp only [Act.put, nzA, nzB, nzC]
      refine gsem 7 (some 18) (.slice (some ⟨g, 0, none⟩) i cap) rfl (by kernel_rfl) (by kernel_rfl) (by kernel_rfl) (fun _ _ _ h => h) (by kernel_rfl) (by kernel_rfl) (fun X hX => ex_slice46h rfl rfl rfl ((unhide HSH) X)) trivial ?_
      simp only [Act.put, nzA, nzB, nzC]
      refine wpAnyH_ready (rs := [8]) (by kernel_rfl) (by simp) (gappG 8 (some 19) (v := .slice (some ⟨B, 0, none⟩) 0 0) (B := g) (off := 0) (m := i) (c := cap) (news := flatE a) rfl (by kernel_rfl) (by kernel_rfl) rfl rfl rfl Tryz.underlying46 info82w rfl (by decide) h12 ((unhide H8) _ hD) (unhide HL8).1 (oneE a) (unhide HL8).2 (by decide) hD.fr.size (fun _ _ => trivial) ?_ AllReadyH.nil)
      intro A8 c8 x8 h19 hg8 hf8
      have hD := hD.own h12 hg8
      clear hg8 hf8 h12
      simp only [Act.put, nzA, nzB, nzC]
      refine wpAnyH_ready (rs := [16]) (by kernel_rfl) (by simp) (gappG 16 (some 27) (v := .slice A8 (0 + i) c8) (B := g) (off := off) (m := R.es.length - (i + 1)) (c := cap - (i + 1)) (news := flatE b) rfl (by kernel_rfl) (by kernel_rfl) rfl rfl rfl Tryz.underlying46 info82w rfl (by decide) h19 ((unhide H16) _ hD) (unhide HL16).1 (oneE b) (unhide HL16).2.1 (by decide) hD.fr.size (fun _ _ => trivial) ?_ AllReadyH.nil)
      intro A9 c9 x9 h27 hg9 hf9
      have hD := hD.own h19 hg9
      clear hg9 hf9 h19
      simp only [Act.put, nzA, nzB, nzC]
      refine gsem 17 (some 28) (.pointer (some ⟨R.t, 0, none⟩)) rfl (by kernel_rfl) (by kernel_rfl) (by kernel_rfl) (fun _ _ _ h => h) (by kernel_rfl) (by kernel_rfl) (fun _ _ => by kernel_rfl) trivial ?_
      simp only [Act.put, nzA, nzB, nzC]
      refine gsem 18 (some 29) (.pointer (some ⟨R.t, 0, none⟩)) rfl (by kernel_rfl) (by kernel_rfl) (by kernel_rfl) (fun _ _ _ h => h) (by kernel_rfl) (by kernel_rfl) (fun _ _ => by kernel_rfl) trivial ?_
      simp only [Act.put, nzA, nzB, nzC]
      refine wpAnyH_ready (rs := [19]) (by kernel_rfl) (by simp) (gskp 19 none rfl (by kernel_rfl) (by kernel_rfl) (ex_store (t := 46) (vs := [.slice A9 (0 + i + (R.es.length - (i + 1))) c9]) rfl rfl rfl rfl (by simp [Value.oneCell']) siz46 hD.tab (by simp)) trivial ?_ AllReadyH.nil)
      simp only [Act.put, nzA, nzB, nzC]
      refine wpAnyH_done (by kernel_rfl) ?_ _
      try simp only [Act.put, nzA, nzB, nzC]
      have HF := hide (hD.fin rfl (unhide HL16).2.2 (by rw [← unhide HFL]; exact h27))
      clear hD h27
      generalize World.setCells _ _ _ _ = x10 at *
      go_wp2
      go_ret
      exact ⟨rfl, unhide HF⟩
  · simp only [Act.put, nzA, nzB, nzC]
    refine gsem 7 (some 18) (.slice (some ⟨g, 0, none⟩) i cap) rfl (by kernel_rfl) (by kernel_rfl) (by kernel_rfl) (fun _ _ _ h => h) (by kernel_rfl) (by kernel_rfl) (fun X hX => ex_slice46h rfl rfl rfl ((unhide HSH) X)) trivial ?_
    simp only [Act.put, nzA, nzB, nzC]
    refine wpAnyH_ready (rs := [1, 12]) (by kernel_rfl) (by simp) (gval 1 (some 12) rfl (by kernel_rfl) (by kernel_rfl) (ex_none46 rfl) trivial ?_ (gval 12 (some 23) rfl (by kernel_rfl) (by kernel_rfl) (ex_load1 46 Tryz.isAgg46 rfl rfl hD.tab rfl) trivial ?_ AllReadyH.nil))
    · have h12 := own_none w2.drew w.heap.size 82 21 hD.fr.size
      have hD := hD.step (Fr.of_below ((Below.refl _ _).alloc (Nat.le_refl _) (Obj.cells #[] 82)) []) (fun b hb => by cases hb)
      generalize (w2.drew).alloc (Obj.cells #[] 82) = x1 at *
      generalize (w2.drew).heap.size = B at *
      simp only [Act.put, nzA, nzB, nzC]
      refine wpAnyH_ready (rs := [8, 12]) (by kernel_rfl) (by simp) (gappG 8 (some 19) (v := .slice (some ⟨B, 0, none⟩) 0 0) (B := g) (off := 0) (m := i) (c := cap) (news := flatE a) rfl (by kernel_rfl) (by kernel_rfl) rfl rfl rfl Tryz.underlying46 info82w rfl (by decide) h12 ((unhide H8) _ hD) (unhide HL8).1 (oneE a) (unhide HL8).2 (by decide) hD.fr.size (fun _ _ => trivial) ?_ (gval 12 (some 23) rfl (by kernel_rfl) (by kernel_rfl) (ex_load1 46 Tryz.isAgg46 rfl rfl hD.tab rfl) trivial ?_ AllReadyH.nil))
      · intro A8 c8 x8 h19 hg8 hf8
        have hD := hD.own h12 hg8
        clear hg8 hf8 h12
        simp only [Act.put, nzA, nzB, nzC]
        refine wpAnyH_ready (rs := [12]) (by kernel_rfl) (by simp) (gval 12 (some 23) rfl (by kernel_rfl) (by kernel_rfl) (ex_load1 46 Tryz.isAgg46 rfl rfl hD.tab rfl) trivial ?_ AllReadyH.nil)
        simp only [Act.put, nzA, nzB, nzC]
        refine gsem 15 (some 26) (.slice (some ⟨g, off, none⟩) (R.es.length - (i + 1)) (cap - (i + 1))) rfl (by kernel_rfl) (by kernel_rfl) (by kernel_rfl) (fun _ _ _ h => h) (by kernel_rfl) (by kernel_rfl) (fun X hX => ex_slice46l rfl rfl rfl ((unhide HSL) X)) trivial ?_
        simp only [Act.put, nzA, nzB, nzC]
        refine wpAnyH_ready (rs := [16]) (by kernel_rfl) (by simp) (gappG 16 (some 27) (v := .slice A8 (0 + i) c8) (B := g) (off := off) (m := R.es.length - (i + 1)) (c := cap - (i + 1)) (news := flatE b) rfl (by kernel_rfl) (by kernel_rfl) rfl rfl rfl Tryz.underlying46 info82w rfl (by decide) h19 ((unhide H16) _ hD) (unhide HL16).1 (oneE b) (unhide HL16).2.1 (by decide) hD.fr.size (fun _ _ => trivial) ?_ AllReadyH.nil)
        intro A9 c9 x9 h27 hg9 hf9
        have hD := hD.own h19 hg9
        clear hg9 hf9 h19
        simp only [Act.put, nzA, nzB, nzC]
        refine gsem 17 (some 28) (.pointer (some ⟨R.t, 0, none⟩)) rfl (by kernel_rfl) (by kernel_rfl) (by kernel_rfl) (fun _ _ _ h => h) (by kernel_rfl) (by kernel_rfl) (fun _ _ => by kernel_rfl) trivial ?_
        simp only [Act.put, nzA, nzB, nzC]
        refine gsem 18 (some 29) (.pointer (some ⟨R.t, 0, none⟩)) rfl (by kernel_rfl) (by kernel_rfl) (by kernel_rfl) (fun _ _ _ h => h) (by kernel_rfl) (by kernel_rfl) (fun _ _ => by kernel_rfl) trivial ?_
        simp only [Act.put, nzA, nzB, nzC]
        refine wpAnyH_ready (rs := [19]) (by kernel_rfl) (by simp) (gskp 19 none rfl (by kernel_rfl) (by kernel_rfl) (ex_store (t := 46) (vs := [.slice A9 (0 + i + (R.es.length - (i + 1))) c9]) rfl rfl rfl rfl (by simp [Value.oneCell']) siz46 hD.tab (by simp)) trivial ?_ AllReadyH.nil)
        simp only [Act.put, nzA, nzB, nzC]
        refine wpAnyH_done (by kernel_rfl) ?_ _
        try simp only [Act.put, nzA, nzB, nzC]
        have HF := hide (hD.fin rfl (unhide HL16).2.2 (by rw [← unhide HFL]; exact h27))
        clear hD h27
        generalize World.setCells _ _ _ _ = x10 at *
        go_wp2
        go_ret
        exact ⟨rfl, unhide HF⟩
      · simp only [Act.put, nzA, nzB, nzC]
        refine gsem 15 (some 26) (.slice (some ⟨g, off, none⟩) (R.es.length - (i + 1)) (cap - (i + 1))) rfl (by kernel_rfl) (by kernel_rfl) (by kernel_rfl) (fun _ _ _ h => h) (by kernel_rfl) (by kernel_rfl) (fun X hX => ex_slice46l rfl rfl rfl ((unhide HSL) X)) trivial ?_
        simp only [Act.put, nzA, nzB, nzC]
        refine wpAnyH_ready (rs := [8]) (by kernel_rfl) (by simp) (gappG 8 (some 19) (v := .slice (some ⟨B, 0, none⟩) 0 0) (B := g) (off := 0) (m := i) (c := cap) (news := flatE a) rfl (by kernel_rfl) (by kernel_rfl) rfl rfl rfl Tryz.underlying46 info82w rfl (by decide) h12 ((unhide H8) _ hD) (unhide HL8).1 (oneE a) (unhide HL8).2 (by decide) hD.fr.size (fun _ _ => trivial) ?_ AllReadyH.nil)
        intro A8 c8 x8 h19 hg8 hf8
        have hD := hD.own h12 hg8
        clear hg8 hf8 h12
        simp only [Act.put, nzA, nzB, nzC]
        refine wpAnyH_ready (rs := [16]) (by kernel_rfl) (by simp) (gappG 16 (some 27) (v := .slice A8 (0 + i) c8) (B := g) (off := off) (m := R.es.length - (i + 1)) (c := cap - (i + 1)) (news := flatE b) rfl (by kernel_rfl) (by kernel_rfl) rfl rfl rfl Tryz.underlying46 info82w rfl (by decide) h19 ((unhide H16) _ hD) (unhide HL16).1 (oneE b) (unhide HL16).2.1 (by decide) hD.fr.size (fun _ _ => trivial) ?_ AllReadyH.nil)
        intro A9 c9 x9 h27 hg9 hf9
        have hD := hD.own h19 hg9
        clear hg9 hf9 h19
        simp only [Act.put, nzA, nzB, nzC]
        refine gsem 17 (some 28) (.pointer (some ⟨R.t, 0, none⟩)) rfl (by kernel_rfl) (by kernel_rfl) (by kernel_rfl) (fun _ _ _ h => h) (by kernel_rfl) (by kernel_rfl) (fun _ _ => by kernel_rfl) trivial ?_
        simp only [Act.put, nzA, nzB, nzC]
        refine gsem 18 (some 29) (.pointer (some ⟨R.t, 0, none⟩)) rfl (by kernel_rfl) (by kernel_rfl) (by kernel_rfl) (fun _ _ _ h => h) (by kernel_rfl) (by kernel_rfl) (fun _ _ => by kernel_rfl) trivial ?_
        simp only [Act.put, nzA, nzB, nzC]
        refine wpAnyH_ready (rs := [19]) (by kernel_rfl) (by simp) (gskp 19 none rfl (by kernel_rfl) (by kernel_rfl) (ex_store (t := 46) (vs := [.slice A9 (0 + i + (R.es.length - (i + 1))) c9]) rfl rfl rfl rfl (by simp [Value.oneCell']) siz46 hD.tab (by simp)) trivial ?_ AllReadyH.nil)
        simp only [Act.put, nzA, nzB, nzC]
        refine wpAnyH_done (by kernel_rfl) ?_ _
        try simp only [Act.put, nzA, nzB, nzC]
        have HF := hide (hD.fin rfl (unhide HL16).2.2 (by rw [← unhide HFL]; exact h27))
        clear hD h27
        generalize World.setCells _ _ _ _ = x10 at *
        go_wp2
        go_ret
        exact ⟨rfl, unhide HF⟩
    · simp only [Act.put, nzA, nzB, nzC]
      refine gsem 15 (some 26) (.slice (some ⟨g, off, none⟩) (R.es.length - (i + 1)) (cap - (i + 1))) rfl (by kernel_rfl) (by kernel_rfl) (by kernel_rfl) (fun _ _ _ h => h) (by kernel_rfl) (by kernel_rfl) (fun X hX => ex_slice46l rfl rfl rfl ((unhide HSL) X)) trivial ?_
      simp only [Act.put, nzA, nzB, nzC]
      refine wpAnyH_ready (rs := [1]) (by kernel_rfl) (by simp) (gval 1 (some 12) rfl (by kernel_rfl) (by kernel_rfl) (ex_none46 rfl) trivial ?_ AllReadyH.nil)
      have h12 := own_none w2.drew w.heap.size 82 21 hD.fr.size
      have hD := hD.step (Fr.of_below ((Below.refl _ _).alloc (Nat.le_refl _) (Obj.cells #[] 82)) []) (fun b hb => by cases hb)
      generalize (w2.drew).alloc (Obj.cells #[] 82) = x1 at *
      generalize (w2.drew).heap.size = B at *
      simp only [Act.put, nzA, nzB, nzC]
      refine wpAnyH_ready (rs := [8]) (by kernel_rfl) (by simp) (gappG 8 (some 19) (v := .slice (some ⟨B, 0, none⟩) 0 0) (B := g) (off := 0) (m := i) (c := cap) (news := flatE a) rfl (by kernel_rfl) (by kernel_rfl) rfl rfl rfl Tryz.underlying46 info82w rfl (by decide) h12 ((unhide H8) _ hD) (unhide HL8).1 (oneE a) (unhide HL8).2 (by decide) hD.fr.size (fun _ _ => trivial) ?_ AllReadyH.nil)
      intro A8 c8 x8 h19 hg8 hf8
      have hD := hD.own h12 hg8
      clear hg8 hf8 h12
      simp only [Act.put, nzA, nzB, nzC]
      refine wpAnyH_ready (rs := [16]) (by kernel_rfl) (by simp) (gappG 16 (some 27) (v := .slice A8 (0 + i) c8) (B := g) (off := off) (m := R.es.length - (i + 1)) (c := cap - (i + 1)) (news := flatE b) rfl (by kernel_rfl) (by kernel_rfl) rfl rfl rfl Tryz.underlying46 info82w rfl (by decide) h19 ((unhide H16) _ hD) (unhide HL16).1 (oneE b) (unhide HL16).2.1 (by decide) hD.fr.size (fun _ _ => trivial) ?_ AllReadyH.nil)
      intro A9 c9 x9 h27 hg9 hf9
      have hD := hD.own h19 hg9
      clear hg9 hf9 h19
      simp only [Act.put, nzA, nzB, nzC]
      refine gsem 17 (some 28) (.pointer (some ⟨R.t, 0, none⟩)) rfl (by kernel_rfl) (by kernel_rfl) (by kernel_rfl) (fun _ _ _ h => h) (by kernel_rfl) (by kernel_rfl) (fun _ _ => by kernel_rfl) trivial ?_
      simp only [Act.put, nzA, nzB, nzC]
      refine gsem 18 (some 29) (.pointer (some ⟨R.t, 0, none⟩)) rfl (by kernel_rfl) (by kernel_rfl) (by kernel_rfl) (fun _ _ _ h => h) (by kernel_rfl) (by kernel_rfl) (fun _ _ => by kernel_rfl) trivial ?_
      simp only [Act.put, nzA, nzB, nzC]
      refine wpAnyH_ready (rs := [19]) (by kernel_rfl) (by simp) (gskp 19 none rfl (by kernel_rfl) (by kernel_rfl) (ex_store (t := 46) (vs := [.slice A9 (0 + i + (R.es.length - (i + 1))) c9]) rfl rfl rfl rfl (by simp [Value.oneCell']) siz46 hD.tab (by simp)) trivial ?_ AllReadyH.nil)
      simp only [Act.put, nzA, nzB, nzC]
      refine wpAnyH_done (by kernel_rfl) ?_ _
      try simp only [Act.put, nzA, nzB, nzC]
      have HF := hide (hD.fin rfl (unhide HL16).2.2 (by rw [← unhide HFL]; exact h27))
      clear hD h27
      generalize World.setCells _ _ _ _ = x10 at *
      go_wp2
      go_ret
      exact ⟨rfl, unhide HF⟩
  · simp only [Act.put, nzA, nzB, nzC]
    refine gsem 15 (some 26) (.slice (some ⟨g, off, none⟩) (R.es.length - (i + 1)) (cap - (i + 1))) rfl (by kernel_rfl) (by kernel_rfl) (by kernel_rfl) (fun _ _ _ h => h) (by kernel_rfl) (by kernel_rfl) (fun X hX => ex_slice46l rfl rfl rfl ((unhide HSL) X)) trivial ?_
    simp only [Act.put, nzA, nzB, nzC]
    refine wpAnyH_ready (rs := [1, 5]) (by kernel_rfl) (by simp) (gval 1 (some 12) rfl (by kernel_rfl) (by kernel_rfl) (ex_none46 rfl) trivial ?_ (gval 5 (some 16) rfl (by kernel_rfl) (by kernel_rfl) (ex_load1 46 Tryz.isAgg46 rfl rfl hD.tab rfl) trivial ?_ AllReadyH.nil))
    · have h12 := own_none w2.drew w.heap.size 82 21 hD.fr.size
      have hD := hD.step (Fr.of_below ((Below.refl _ _).alloc (Nat.le_refl _) (Obj.cells #[] 82)) []) (fun b hb => by cases hb)
      generalize (w2.drew).alloc (Obj.cells #[] 82) = x1 at *
      generalize (w2.drew).heap.size = B at *
      simp only [Act.put, nzA, nzB, nzC]
      refine wpAnyH_ready (rs := [5]) (by kernel_rfl) (by simp) (gval 5 (some 16) rfl (by kernel_rfl) (by kernel_rfl) (ex_load1 46 Tryz.isAgg46 rfl rfl hD.tab rfl) trivial ?_ AllReadyH.nil)
      simp only [Act.put, nzA, nzB, nzC]
      refine gsem 7 (some 18) (.slice (some ⟨g, 0, none⟩) i cap) rfl (by kernel_rfl) (by kernel_rfl) (by kernel_rfl) (fun _ _ _ h => h) (by kernel_rfl) (by kernel_rfl) (fun X hX => ex_slice46h rfl rfl rfl ((unhide HSH) X)) trivial ?_
      simp only [Act.put, nzA, nzB, nzC]
      refine wpAnyH_ready (rs := [8]) (by kernel_rfl) (by simp) (gappG 8 (some 19) (v := .slice (some ⟨B, 0, none⟩) 0 0) (B := g) (off := 0) (m := i) (c := cap) (news := flatE a) rfl (by kernel_rfl) (by kernel_rfl) rfl rfl rfl Tryz.underlying46 info82w rfl (by decide) h12 ((unhide H8) _ hD) (unhide HL8).1 (oneE a) (unhide HL8).2 (by decide) hD.fr.size (fun _ _ => trivial) ?_ AllReadyH.nil)
      intro A8 c8 x8 h19 hg8 hf8
      have hD := hD.own h12 hg8
      clear hg8 hf8 h12
      simp only [Act.put, nzA, nzB, nzC]
      refine wpAnyH_ready (rs := [16]) (by kernel_rfl) (by simp) (gappG 16 (some 27) (v := .slice A8 (0 + i) c8) (B := g) (off := off) (m := R.es.length - (i + 1)) (c := cap - (i + 1)) (news := flatE b) rfl (by kernel_rfl) (by kernel_rfl) rfl rfl rfl Tryz.underlying46 info82w rfl (by decide) h19 ((unhide H16) _ hD) (unhide HL16).1 (oneE b) (unhide HL16).2.1 (by decide) hD.fr.size (fun _ _ => trivial) ?_ AllReadyH.nil)
      intro A9 c9 x9 h27 hg9 hf9
      have hD := hD.own h19 hg9
      clear hg9 hf9 h19
      simp only [Act.put, nzA, nzB, nzC]
      refine gsem 17 (some 28) (.pointer (some ⟨R.t, 0, none⟩)) rfl (by kernel_rfl) (by kernel_rfl) (by kernel_rfl) (fun _ _ _ h => h) (by kernel_rfl) (by kernel_rfl) (fun _ _ => by kernel_rfl) trivial ?_
      simp only [Act.put, nzA, nzB, nzC]
      refine gsem 18 (some 29) (.pointer (some ⟨R.t, 0, none⟩)) rfl (by kernel_rfl) (by kernel_rfl) (by kernel_rfl) (fun _ _ _ h => h) (by kernel_rfl) (by kernel_rfl) (fun _ _ => by kernel_rfl) trivial ?_
      simp only [Act.put, nzA, nzB, nzC]
      refine wpAnyH_ready (rs := [19]) (by kernel_rfl) (by simp) (gskp 19 none rfl (by kernel_rfl) (by kernel_rfl) (ex_store (t := 46) (vs := [.slice A9 (0 + i + (R.es.length - (i + 1))) c9]) rfl rfl rfl rfl (by simp [Value.oneCell']) siz46 hD.tab (by simp)) trivial ?_ AllReadyH.nil)
      simp only [Act.put, nzA, nzB, nzC]
      refine wpAnyH_done (by kernel_rfl) ?_ _
      try simp only [Act.put, nzA, nzB, nzC]
      have HF := hide (hD.fin rfl (unhide HL16).2.2 (by rw [← unhide HFL]; exact h27))
      clear hD h27
      generalize World.setCells _ _ _ _ = x10 at *
      go_wp2
      go_ret
      exact ⟨rfl, unhide HF⟩
    · simp only [Act.put, nzA, nzB, nzC]
      refine gsem 7 (some 18) (.slice (some ⟨g, 0, none⟩) i cap) rfl (by kernel_rfl) (by kernel_rfl) (by kernel_rfl) (fun _ _ _ h => h) (by kernel_rfl) (by kernel_rfl) (fun X hX => ex_slice46h rfl rfl rfl ((unhide HSH) X)) trivial ?_
      simp only [Act.put, nzA, nzB, nzC]
      refine wpAnyH_ready (rs := [1]) (by kernel_rfl) (by simp) (gval 1 (some 12) rfl (by kernel_rfl) (by kernel_rfl) (ex_none46 rfl) trivial ?_ AllReadyH.nil)
      have h12 := own_none w2.drew w.heap.size 82 21 hD.fr.size
      have hD := hD.step (Fr.of_below ((Below.refl _ _).alloc (Nat.le_refl _) (Obj.cells #[] 82)) []) (fun b hb => by cases hb)
      generalize (w2.drew).alloc (Obj.cells #[] 82) = x1 at *
      generalize (w2.drew).heap.size = B at *
      simp only [Act.put, nzA, nzB, nzC]
      refine wpAnyH_ready (rs := [8]) (by kernel_rfl) (by simp) (gappG 8 (some 19) (v := .slice (some ⟨B, 0, none⟩) 0 0) (B := g) (off := 0) (m := i) (c := cap) (news := flatE a) rfl (by kernel_rfl) (by kernel_rfl) rfl rfl rfl Tryz.underlying46 info82w rfl (by decide) h12 ((unhide H8) _ hD) (unhide HL8).1 (oneE a) (unhide HL8).2 (by decide) hD.fr.size (fun _ _ => trivial) ?_ AllReadyH.nil)
      intro A8 c8 x8 h19 hg8 hf8
      have hD := hD.own h12 hg8
      clear hg8 hf8 h12
      simp only [Act.put, nzA, nzB, nzC]
      refine wpAnyH_ready (rs := [16]) (by kernel_rfl) (by simp) (gappG 16 (some 27) (v := .slice A8 (0 + i) c8) (B := g) (off := off) (m := R.es.length - (i + 1)) (c := cap - (i + 1)) (news := flatE b) rfl (by kernel_rfl) (by kernel_rfl) rfl rfl rfl Tryz.underlying46 info82w rfl (by decide) h19 ((unhide H16) _ hD) (unhide HL16).1 (oneE b) (unhide HL16).2.1 (by decide) hD.fr.size (fun _ _ => trivial) ?_ AllReadyH.nil)
      intro A9 c9 x9 h27 hg9 hf9
      have hD := hD.own h19 hg9
      clear hg9 hf9 h19
      simp only [Act.put, nzA, nzB, nzC]
      refine gsem 17 (some 28) (.pointer (some ⟨R.t, 0, none⟩)) rfl (by kernel_rfl) (by kernel_rfl) (by kernel_rfl) (fun _ _ _ h => h) (by kernel_rfl) (by kernel_rfl) (fun _ _ => by kernel_rfl) trivial ?_
      simp only [Act.put, nzA, nzB, nzC]
      refine gsem 18 (some 29) (.pointer (some ⟨R.t, 0, none⟩)) rfl (by kernel_rfl) (by kernel_rfl) (by kernel_rfl) (fun _ _ _ h => h) (by kernel_rfl) (by kernel_rfl) (fun _ _ => by kernel_rfl) trivial ?_
      simp only [Act.put, nzA, nzB, nzC]
      refine wpAnyH_ready (rs := [19]) (by kernel_rfl) (by simp) (gskp 19 none rfl (by kernel_rfl) (by kernel_rfl) (ex_store (t := 46) (vs := [.slice A9 (0 + i + (R.es.length - (i + 1))) c9]) rfl rfl rfl rfl (by simp [Value.oneCell']) siz46 hD.tab (by simp)) trivial ?_ AllReadyH.nil)
      simp only [Act.put, nzA, nzB, nzC]
      refine wpAnyH_done (by kernel_rfl) ?_ _
      try simp only [Act.put, nzA, nzB, nzC]
      have HF := hide (hD.fin rfl (unhide HL16).2.2 (by rw [← unhide HFL]; exact h27))
      clear hD h27
      generalize World.setCells _ _ _ _ = x10 at *
      go_wp2
      go_ret
      exact ⟨rfl, unhide HF⟩
