import Derived.Test.YtpbdidnphkkenaaGreatDoorQwc
import Derived.Test.YtpbdidnphkkenaaGreatDoorQwa

/-! Pa -/
namespace Go.Proofs.YtpbdidnphkkenaaGreatDoor
open Go Go.Proofs Go.Maps Go.RowKit
set_option linter.unusedSimpArgs false
set_option linter.unusedVariables false
set_option maxHeartbeats 1000000
theorem filter_key {es : List EE} {k : KK} {a b : List EE} {x : EE} (hp : es.Pairwise (fun a b => a.k ≠ b.k)) (he : es = a ++ x :: b) (hk : x.k = k) : (es.map EE.pr).filter (fun p => decide (p.1 ≠ k)) = (a ++ b).map EE.pr := by
  subst he
  have h1 := List.pairwise_append.1 hp
  have h2 := List.pairwise_cons.1 h1.2.1
  have ha : (a.map EE.pr).filter (fun p => decide (p.1 ≠ k)) = a.map EE.pr := by
    rw [List.filter_eq_self]
    intro p hp'
    obtain ⟨y, hy, rfl⟩ := List.mem_map.1 hp'
    have := h1.2.2 y hy x (by simp)
    rw [hk] at this
    exact decide_eq_true this
  have hb : (b.map EE.pr).filter (fun p => decide (p.1 ≠ k)) = b.map EE.pr := by
    rw [List.filter_eq_self]
    intro p hp'
    obtain ⟨y, hy, rfl⟩ := List.mem_map.1 hp'
    have := h2.1 y hy
    rw [hk] at this
    exact decide_eq_true (fun e : y.k = k => this e.symm)
  rw [List.map_append, List.map_cons, List.filter_append, List.filter_cons, ha, hb, List.map_append]
  simp [EE.pr, hk]
theorem Rel.pair {T : TT} {R : RT} {W : World} (h : Rel T R) (hT : T.Is W) : R.es.Pairwise (fun a b => a.k ≠ b.k) := by
  have h2 : (T.live.map (·.k)).Pairwise (fun a b => a ≠ b) := by rw [List.pairwise_map]; exact hT.keys
  rw [h.keys, List.pairwise_map] at h2
  exact h2
theorem rel_del {T T' : TT} {R R' : RT} {W : World} {k : KK} (h : Rel T R) (hT : T.Is W) (hp : T'.live = T.live.filter (fun q => decide (q.k ≠ k))) (hq : DelR R k R') : Rel T' R' := by
  have hs := h.some k
  have e : T'.live.map RR.pr = (T.live.map RR.pr).filter (fun p => decide (p.1 ≠ k)) := by
    rw [hp, List.filter_map]
    rfl
  unfold Rel
  rcases hq with ⟨h1, h2⟩ | ⟨a, x, b, h1, h2, h3⟩
  · rw [h1] at hs
    have hf : T.find k = none := by simpa using hs
    have : T.live.filter (fun q => decide (q.k ≠ k)) = T.live := by
      rw [List.filter_eq_self]
      intro q hq
      simpa using TT.find_none hf q hq
    rw [hp, this, h2]
    exact h
  · have hk : x.k = k := by
      obtain ⟨hi, hk⟩ := RT.find_lt h2
      simpa [h1] using hk
    rw [e, h, filter_key (h.pair hT) h1 hk, h3]
theorem eqlB (b : Bool) (w : World) : (binOp .eql 4 (.bool b) (.bool b)).run Tryz.prog w = .ok (.bool true) w := by
  cases b <;> kernel_rfl
set_option maxRecDepth 100000 in
theorem play_delete (S : PS) (k : KK) (d : DD) (nn : Int) (inner : Value) (dep : Int) (w : World) (base N : Nat) (hS : S.Is w base N) (hN : N < 3000) (hk : OkK k) : Calls Tryz.prog 8 #[.pointer (some ⟨S.P, 0, none⟩), actV 2 k d nn inner, .int .i64 dep] w fun e w' => e = .returned (.bool true) ∧ ∃ S', S'.Is w' base (N + 1) ∧ Went S S' w w' := by
  have HU := hide hk
  clear hk
  have hr2 := hS.rel0.some k
  obtain ⟨ff, hff⟩ : ∃ ff, ff = (S.T0.find k).isSome := ⟨_, rfl⟩
  have hff2 : (S.R0.find k).isSome = ff := by rw [hff, hr2]
  have Hff := hide (And.intro hff.symm hff2)
  clear hr2 hff hff2
  have HP := hide hS.bs.hold
  have HLT := hide hS.bs.lt
  have HS := hide hS
  clear hS
  unfold actV
  go_enter Tryz.func8, Tryz.ntmps8
  go_wp2_with (first | go_skip | (refine bx 41 (actCs 2 k d nn inner) (by rfl) rfl rfl rfl (Nat.succ_pos _) (Hq.nil w []) ?_; intro w1 B hB L1 hb1; replace HP := hide ((unhide HS).bs.on hb1).hold; replace HS := hide ((unhide HS).on hb1); have LL := hide L1; have HB1 := hide hb1; have HB := hide hB; clear hB L1 hb1; simp only [Act.put, List.setIfInBounds_toArray, List.set_cons_succ, List.set_cons_zero]) | (refine rd (by rfl) (ex_load1 26 Tryz.isAgg26 rfl rfl (unhide HP) rfl) ?_; simp only [Act.put, List.setIfInBounds_toArray, List.set_cons_succ, List.set_cons_zero]) | (refine rd (by rfl) (ex_load1 28 Tryz.isAgg28 rfl rfl (unhide HP) rfl) ?_; simp only [Act.put, List.setIfInBounds_toArray, List.set_cons_succ, List.set_cons_zero]) | (refine rd (by rfl) (ex_load1 3 Tryz.isAgg3 rfl rfl ((unhide LL).get 0 rfl) rfl) ?_; simp only [Act.put, List.setIfInBounds_toArray, List.set_cons_succ, List.set_cons_zero]))
  refine wp_region_held_drew (P := Tryz.prog) (S := fun X => Holds X B (actCs 2 k d nn inner)) (by kernel_rfl) (((unhide LL).get 0 rfl).block rfl) (fun hS0 => ?_)
  refine gsem 0 (some 48) (.pointer (some ⟨S.T0.t, 0, none⟩)) rfl (by kernel_rfl) (by kernel_rfl) (by kernel_rfl) (fun _ _ _ h => h) (by kernel_rfl) (by kernel_rfl) (fun _ _ => by kernel_rfl) hS0 ?_
  simp only [Act.put, List.setIfInBounds_toArray, List.set_cons_succ, List.set_cons_zero]
  refine gsem 1 (some 49) (.pointer (some ⟨B, 1, none⟩)) rfl (by kernel_rfl) (by kernel_rfl) (by kernel_rfl) (fun _ _ _ h => h) (by kernel_rfl) (by kernel_rfl) (fun _ _ => by kernel_rfl) hS0 ?_
  simp only [Act.put, List.setIfInBounds_toArray, List.set_cons_succ, List.set_cons_zero]
  refine gsem 2 (some 50) (k.agg) rfl (by kernel_rfl) (by kernel_rfl) (by kernel_rfl) (fun _ _ _ h => h) (by kernel_rfl) (by kernel_rfl) (fun X hX => ex_loadN (vs := k.cs) 33 2 row33x siz33 rfl rfl (hX) rfl rfl) hS0 ?_
  simp only [Act.put, List.setIfInBounds_toArray, List.set_cons_succ, List.set_cons_zero]
  refine gsem 4 (some 52) (.pointer (some ⟨S.R0.t, 0, none⟩)) rfl (by kernel_rfl) (by kernel_rfl) (by kernel_rfl) (fun _ _ _ h => h) (by kernel_rfl) (by kernel_rfl) (fun _ _ => by kernel_rfl) hS0 ?_
  simp only [Act.put, List.setIfInBounds_toArray, List.set_cons_succ, List.set_cons_zero]
  refine gsem 5 (some 53) (.pointer (some ⟨B, 1, none⟩)) rfl (by kernel_rfl) (by kernel_rfl) (by kernel_rfl) (fun _ _ _ h => h) (by kernel_rfl) (by kernel_rfl) (fun _ _ => by kernel_rfl) hS0 ?_
  simp only [Act.put, List.setIfInBounds_toArray, List.set_cons_succ, List.set_cons_zero]
  refine gsem 6 (some 54) (k.agg) rfl (by kernel_rfl) (by kernel_rfl) (by kernel_rfl) (fun _ _ _ h => h) (by kernel_rfl) (by kernel_rfl) (fun X hX => ex_loadN (vs := k.cs) 33 2 row33x siz33 rfl rfl (hX) rfl rfl) hS0 ?_
  simp only [Act.put, List.setIfInBounds_toArray, List.set_cons_succ, List.set_cons_zero]
  have h1 := (unhide HS).drew
  have hz := (unhide HS).last.1
  have hes := (unhide HS).es0
  have hnx := (unhide HS).nx
  have hC := delete14 S.T0 k w1.drew h1.bs.t0 (unhide HU) (by omega)
  rw [(unhide Hff).1] at hC
  refine wpAnyH_ready (rs := [3]) (by kernel_rfl) (by simp) (gcallR 3 (some 51) rfl (by kernel_rfl) (by kernel_rfl) (by kernel_rfl) hC ?_ AllReadyH.nil)
  clear hC
  rintro _ w2 ⟨rfl, T', hT', ht, hlast, hf, hb, hp⟩
  have hBS : B < w1.drew.heap.size := hS0.lt (Nat.succ_pos _)
  have hB2 : B ∉ S.T0.blocks := fun h => by
    have := (unhide HLT) S.T0.blocks (by simp [PS.parts]) B h
    have e := unhide HB
    omega
  have hB3 : B ∉ S.R0.blocks := fun h => by
    have := (unhide HLT) S.R0.blocks (by simp [PS.parts]) B h
    have e := unhide HB
    omega
  have hS2 : Holds w2 B (actCs 2 k d nn inner) := hS0.block (hf.block B hBS hB2)
  obtain ⟨hbs2, hwn2⟩ := h1.bs.table0 hT' ht hf hb
  refine ⟨_, rfl, hS2, ?_⟩
  simp only [Act.put, List.setIfInBounds_toArray, List.set_cons_succ, List.set_cons_zero]
  have hC := refDelete15 S.R0 k w2 hbs2.r0 (by omega)
  rw [(unhide Hff).2] at hC
  refine wpAnyH_ready (rs := [7]) (by kernel_rfl) (by simp) (gcallR 7 (some 55) rfl (by kernel_rfl) (by kernel_rfl) (by kernel_rfl) hC ?_ AllReadyH.nil)
  clear hC
  rintro _ w4 ⟨rfl, R', hTo, hq⟩
  obtain ⟨hbs4, hwn4⟩ := hbs2.doc0 hTo.is hTo.t hTo.fr hTo.new
  have hS4 : Holds w4 B (actCs 2 k d nn inner) := hS2.block (hTo.fr.block B (hS2.lt (Nat.succ_pos _)) hB3)
  have hnr := hTo.nx
  have FIN : Hid (∃ S', PS.Is S' w4 base (N + 1) ∧ Went S S' w w4) := hide ⟨_, ⟨hbs4, rel_del h1.rel0 h1.bs.t0 hp hq, h1.rel1, ⟨by show T'.last ≤ N + 1; omega, Nat.le_trans h1.last.2 (Nat.le_succ _)⟩, ⟨by show 0 ≤ R'.nx; omega, by show R'.nx ≤ ((N + 1 : Nat) : Int); omega, hnx.2.2.1, by have := hnx.2.2.2; show S.R1.nx ≤ ((N + 1 : Nat) : Int); omega⟩⟩, (Went.refl S (below_dr (unhide HB1))).trans (hwn2.trans hwn4)⟩
  refine ⟨_, rfl, hS4, ?_⟩
  clear hbs4 hwn4 hTo hq hnr hbs2 hwn2 hS2 hT' ht hf hb hp hBS hB2 hB3 hz hes hnx h1 hS0 hlast
  simp only [Act.put, List.setIfInBounds_toArray, List.set_cons_succ, List.set_cons_zero]
  refine gbin 8 (some 56) (b := .eql) (t := 4) (t2 := 4) (x := .tmp 51) (y := .tmp 55) (vx := .bool ff) (vy := .bool ff) (.bool true) rfl (by kernel_rfl) (by kernel_rfl) (by kernel_rfl) (fun _ _ _ h => h) (by kernel_rfl) (by kernel_rfl) (by kernel_rfl) (by kernel_rfl) (by kernel_rfl) (fun w => eqlB ff w) (fun _ => by kernel_rfl) hS4 ?_
  simp only [Act.put, List.setIfInBounds_toArray, List.set_cons_succ, List.set_cons_zero]
  refine gsem 9 (some 6) (.bool true) rfl (by kernel_rfl) (by kernel_rfl) (by kernel_rfl) (fun _ _ _ h => h) (by kernel_rfl) (by kernel_rfl) (fun _ _ => by kernel_rfl) hS4 ?_
  simp only [Act.put, List.setIfInBounds_toArray, List.set_cons_succ, List.set_cons_zero]
  refine wpAnyH_done (by kernel_rfl) ?_ _
  try simp only [Act.put, List.setIfInBounds_toArray, List.set_cons_succ, List.set_cons_zero]
  clear hS4
  go_wp2
  go_ret
  exact ⟨rfl, unhide FIN⟩
set_option maxRecDepth 100000 in
theorem play_clear (S : PS) (k : KK) (d : DD) (nn : Int) (inner : Value) (dep : Int) (w : World) (base N : Nat) (hS : S.Is w base N) (hN : N < 3000) : Calls Tryz.prog 8 #[.pointer (some ⟨S.P, 0, none⟩), actV 3 k d nn inner, .int .i64 dep] w fun e w' => e = .returned (.bool true) ∧ ∃ S', S'.Is w' base (N + 1) ∧ Went S S' w w' := by
  have HP := hide hS.bs.hold
  have HLT := hide hS.bs.lt
  have HS := hide hS
  clear hS
  unfold actV
  go_enter Tryz.func8, Tryz.ntmps8
  go_wp2_with (first | go_skip | (refine bx 41 (actCs 3 k d nn inner) (by rfl) rfl rfl rfl (Nat.succ_pos _) (Hq.nil w []) ?_; intro w1 B hB L1 hb1; replace HP := hide ((unhide HS).bs.on hb1).hold; replace HS := hide ((unhide HS).on hb1); have LL := hide L1; have HB1 := hide hb1; have HB := hide hB; clear hB L1 hb1; simp only [Act.put, List.setIfInBounds_toArray, List.set_cons_succ, List.set_cons_zero]) | (refine rd (by rfl) (ex_load1 26 Tryz.isAgg26 rfl rfl (unhide HP) rfl) ?_; simp only [Act.put, List.setIfInBounds_toArray, List.set_cons_succ, List.set_cons_zero]) | (refine rd (by rfl) (ex_load1 28 Tryz.isAgg28 rfl rfl (unhide HP) rfl) ?_; simp only [Act.put, List.setIfInBounds_toArray, List.set_cons_succ, List.set_cons_zero]) | (refine rd (by rfl) (ex_load1 3 Tryz.isAgg3 rfl rfl ((unhide LL).get 0 rfl) rfl) ?_; simp only [Act.put, List.setIfInBounds_toArray, List.set_cons_succ, List.set_cons_zero]))
  refine (clear16 S.T0 w1 (unhide HS).bs.t0).mono ?_
  rintro _ w2 ⟨rfl, T', hTo, hlv⟩
  obtain ⟨hbs2, hwn2⟩ := (unhide HS).bs.table0 hTo.is hTo.t hTo.fr hTo.new
  have H2 := hide (And.intro hbs2 (And.intro hwn2 (And.intro hlv hTo.last)))
  clear hbs2 hwn2 hlv hTo
  go_wp2_with fail
  refine (refClear17 S.R0 w2 (unhide H2).1.r0).mono ?_
  rintro _ w3 ⟨rfl, R', hTo, hes⟩
  obtain ⟨hbs3, hwn3⟩ := (unhide H2).1.doc0 hTo.is hTo.t hTo.fr hTo.new
  have h0 := unhide HS
  have hnx := h0.nx
  have hla := h0.last
  have hnr := hTo.nx
  have hlt := (unhide H2).2.2.2
  have FIN : Hid (∃ S', PS.Is S' w3 base (N + 1) ∧ Went S S' w w3) := hide ⟨_, ⟨hbs3, (by unfold Rel; rw [(unhide H2).2.2.1, hes]; rfl), h0.rel1, ⟨by show T'.last ≤ N + 1; omega, Nat.le_trans hla.2 (Nat.le_succ _)⟩, ⟨by show 0 ≤ R'.nx; omega, by show R'.nx ≤ ((N + 1 : Nat) : Int); omega, hnx.2.2.1, by have := hnx.2.2.2; show S.R1.nx ≤ ((N + 1 : Nat) : Int); omega⟩⟩, (Went.refl S (unhide HB1)).trans ((unhide H2).2.1.trans hwn3)⟩
  clear hbs3 hwn3 hTo hes h0 hnx hla hnr hlt H2
  go_wp2
  go_ret
  exact ⟨rfl, unhide FIN⟩
theorem to_compact {T : TT} {w w' : World} {m : Nat} {rv : Value} (hi : (T.packed m rv).Is w') (hf : Fr w w' [T.t]) (hb : ∀ b ∈ (T.packed m rv).blocks, b ∈ T.blocks ∨ w.heap.size ≤ b) : TT.To T (T.packed m rv) w w' :=
  ⟨hi, rfl, rfl, hf.mono (fun b hb => .inl (by obtain rfl : b = T.t := (by simpa using hb); simp [TT.blocks])), hb⟩
/-- The first table holds the same, otherwise. -/
theorem PS.Is.same0 {S : PS} {W W' : World} {base N : Nat} (h : S.Is W base N) {T' : TT} (hTo : TT.To S.T0 T' W W') (hl : T'.live = S.T0.live) : ∃ S', S'.Is W' base (N + 1) ∧ Went S S' W W' := by
  obtain ⟨hbs, hwn⟩ := h.bs.table0 hTo.is hTo.t hTo.fr hTo.new
  have hla := h.last
  have hnx := h.nx
  have hlt := hTo.last
  exact ⟨_, ⟨hbs, (by unfold Rel; rw [hl]; exact h.rel0), h.rel1, ⟨by show T'.last ≤ N + 1; omega, Nat.le_trans hla.2 (Nat.le_succ _)⟩, ⟨hnx.1, by show S.R0.nx ≤ ((N + 1 : Nat) : Int); omega, hnx.2.2.1, by show S.R1.nx ≤ ((N + 1 : Nat) : Int); omega⟩⟩, hwn⟩
set_option maxRecDepth 100000 in
theorem play_compact (S : PS) (k : KK) (d : DD) (nn : Int) (inner : Value) (dep : Int) (w : World) (base N : Nat) (hS : S.Is w base N) (hN : N < 3000) : Calls Tryz.prog 8 #[.pointer (some ⟨S.P, 0, none⟩), actV 4 k d nn inner, .int .i64 dep] w fun e w' => e = .returned (.bool true) ∧ ∃ S', S'.Is w' base (N + 1) ∧ Went S S' w w' := by
  have HP := hide hS.bs.hold
  have HLT := hide hS.bs.lt
  have HS := hide hS
  clear hS
  unfold actV
  go_enter Tryz.func8, Tryz.ntmps8
  go_wp2_with (first | go_skip | (refine bx 41 (actCs 4 k d nn inner) (by rfl) rfl rfl rfl (Nat.succ_pos _) (Hq.nil w []) ?_; intro w1 B hB L1 hb1; replace HP := hide ((unhide HS).bs.on hb1).hold; replace HS := hide ((unhide HS).on hb1); have LL := hide L1; have HB1 := hide hb1; have HB := hide hB; clear hB L1 hb1; simp only [Act.put, List.setIfInBounds_toArray, List.set_cons_succ, List.set_cons_zero]) | (refine rd (by rfl) (ex_load1 26 Tryz.isAgg26 rfl rfl (unhide HP) rfl) ?_; simp only [Act.put, List.setIfInBounds_toArray, List.set_cons_succ, List.set_cons_zero]) | (refine rd (by rfl) (ex_load1 28 Tryz.isAgg28 rfl rfl (unhide HP) rfl) ?_; simp only [Act.put, List.setIfInBounds_toArray, List.set_cons_succ, List.set_cons_zero]) | (refine rd (by rfl) (ex_load1 3 Tryz.isAgg3 rfl rfl ((unhide LL).get 0 rfl) rfl) ?_; simp only [Act.put, List.setIfInBounds_toArray, List.set_cons_succ, List.set_cons_zero]))
  refine (compact18 S.T0 w1 (unhide HS).bs.t0 (by have := (unhide HS).last.1; omega)).mono ?_
  rintro _ w2 ⟨rfl, m, rv, hi, hf, hb⟩
  obtain ⟨S', hS', hW'⟩ := (unhide HS).same0 (to_compact hi hf hb) (TT.packed_live _ _ _)
  have FIN : Hid (∃ S', PS.Is S' w2 base (N + 1) ∧ Went S S' w w2) := hide ⟨S', hS', (Went.refl S (unhide HB1)).trans hW'⟩
  clear hi hf hb hS' hW'
  go_wp2
  go_ret
  exact ⟨rfl, unhide FIN⟩
set_option maxRecDepth 100000 in
theorem play_tell (S : PS) (k : KK) (d : DD) (nn : Int) (inner : Value) (dep : Int) (w : World) (base N : Nat) (hS : S.Is w base N) (hN : N < 3000) (hU : Lib.Utf8Tabs 2 3 w) (hP : TabP w) : Calls Tryz.prog 8 #[.pointer (some ⟨S.P, 0, none⟩), actV 7 k d nn inner, .int .i64 dep] w fun e w' => e = .returned (.bool true) ∧ ∃ S', S'.Is w' base (N + 1) ∧ Went S S' w w' := by
  have HU : Hid (∀ X, Below w.heap.size w X → Lib.Utf8Tabs 2 3 X ∧ TabP X) := hide (fun X hX => ⟨tabs_fr hU (Fr.of_below hX []) (by simp), hP.on hX⟩)
  clear hU hP
  have HP := hide hS.bs.hold
  have HLT := hide hS.bs.lt
  have HS := hide hS
  clear hS
  unfold actV
  go_enter Tryz.func8, Tryz.ntmps8
  go_wp2_with (first | go_skip | (refine bx 41 (actCs 7 k d nn inner) (by rfl) rfl rfl rfl (Nat.succ_pos _) (Hq.nil w []) ?_; intro w1 B hB L1 hb1; replace HP := hide ((unhide HS).bs.on hb1).hold; replace HS := hide ((unhide HS).on hb1); have LL := hide L1; have HB1 := hide hb1; have HB := hide hB; clear hB L1 hb1; simp only [Act.put, List.setIfInBounds_toArray, List.set_cons_succ, List.set_cons_zero]) | (refine rd (by rfl) (ex_load1 26 Tryz.isAgg26 rfl rfl (unhide HP) rfl) ?_; simp only [Act.put, List.setIfInBounds_toArray, List.set_cons_succ, List.set_cons_zero]) | (refine rd (by rfl) (ex_load1 28 Tryz.isAgg28 rfl rfl (unhide HP) rfl) ?_; simp only [Act.put, List.setIfInBounds_toArray, List.set_cons_succ, List.set_cons_zero]) | (refine rd (by rfl) (ex_load1 3 Tryz.isAgg3 rfl rfl ((unhide LL).get 0 rfl) rfl) ?_; simp only [Act.put, List.setIfInBounds_toArray, List.set_cons_succ, List.set_cons_zero]))
  refine (tells9_0 S.T0 S.R0 S.P S.T1.t S.R1.t S.left w1 (unhide HS).bs.hold (unhide HS).bs.t0 (unhide HS).bs.r0 (unhide HS).rel0 (by have := (unhide HS).last.1; omega) (by have := (unhide HS).live0; omega) ((unhide HU) _ (unhide HB1)).1 ((unhide HU) _ (unhide HB1)).2).mono ?_
  rintro _ w2 ⟨rfl, hb⟩
  replace HS := hide ((unhide HS).on hb)
  replace HB1 := hide ((unhide HB1).trans (hb.mono (unhide HB1).size))
  clear hb
  go_wp2_with fail
  refine (tells9_1 S.T1 S.R1 S.P S.T0.t S.R0.t S.left w2 (unhide HS).bs.hold (unhide HS).bs.t1 (unhide HS).bs.r1 (unhide HS).rel1 (by have := (unhide HS).last.2; omega) (by have := (unhide HS).live1; omega) ((unhide HU) _ (unhide HB1)).1 ((unhide HU) _ (unhide HB1)).2).mono ?_
  rintro _ w3 ⟨rfl, hb⟩
  replace HS := hide ((unhide HS).on hb)
  replace HB1 := hide ((unhide HB1).trans (hb.mono (unhide HB1).size))
  clear hb
  go_wp2
  go_ret
  exact ⟨rfl, S, (unhide HS).mono (Nat.le_succ _), Went.refl S (unhide HB1)⟩
set_option maxRecDepth 100000 in
theorem play_other (z : Int) (S : PS) (k : KK) (d : DD) (nn : Int) (inner : Value) (dep : Int) (w : World) (base N : Nat) (hS : S.Is w base N) (hN : N < 3000) (h1 : ¬ z = 1) (h2 : ¬ z = 2) (h3 : ¬ z = 3) (h4 : ¬ z = 4) (h5 : ¬ z = 5) (h6 : ¬ z = 6) (h7 : ¬ z = 7) (h8 : ¬ z = 8) (h9 : ¬ z = 9) (h10 : ¬ z = 10) : Calls Tryz.prog 8 #[.pointer (some ⟨S.P, 0, none⟩), actV z k d nn inner, .int .i64 dep] w fun e w' => e = .returned (.bool true) ∧ ∃ S', S'.Is w' base (N + 1) ∧ Went S S' w w' := by
  have HP := hide hS.bs.hold
  have HLT := hide hS.bs.lt
  have HS := hide hS
  clear hS
  unfold actV
  go_enter Tryz.func8, Tryz.ntmps8
  go_wp2_with (first | go_skip | (refine bx 41 (actCs z k d nn inner) (by rfl) rfl rfl rfl (Nat.succ_pos _) (Hq.nil w []) ?_; intro w1 B hB L1 hb1; replace HP := hide ((unhide HS).bs.on hb1).hold; replace HS := hide ((unhide HS).on hb1); have LL := hide L1; have HB1 := hide hb1; have HB := hide hB; clear hB L1 hb1; simp only [Act.put, List.setIfInBounds_toArray, List.set_cons_succ, List.set_cons_zero]) | (refine rd (by rfl) (ex_load1 26 Tryz.isAgg26 rfl rfl (unhide HP) rfl) ?_; simp only [Act.put, List.setIfInBounds_toArray, List.set_cons_succ, List.set_cons_zero]) | (refine rd (by rfl) (ex_load1 28 Tryz.isAgg28 rfl rfl (unhide HP) rfl) ?_; simp only [Act.put, List.setIfInBounds_toArray, List.set_cons_succ, List.set_cons_zero]) | (refine rd (by rfl) (ex_load1 3 Tryz.isAgg3 rfl rfl ((unhide LL).get 0 rfl) rfl) ?_; simp only [Act.put, List.setIfInBounds_toArray, List.set_cons_succ, List.set_cons_zero]))
  go_ret
  exact ⟨rfl, S, (unhide HS).mono (Nat.le_succ _), Went.refl S (unhide HB1)⟩
end Go.Proofs.YtpbdidnphkkenaaGreatDoor

/-! Pb -/
namespace Go.Proofs.YtpbdidnphkkenaaGreatDoor
open Go Go.Proofs Go.Maps Go.RowKit
set_option linter.unusedSimpArgs false
set_option linter.unusedVariables false
set_option maxHeartbeats 1000000
theorem ex_eql33 {o : Oper} {a : Act} {w : World} {x y : Operand} (k : KK) (ho : o.op = .binOp .eql 33 x y 33) (hx : a.eval x = k.agg) (hy : a.eval y = k.agg) : (execOp a.eval o).run Tryz.prog w = .ok (.value (.bool true)) w := by
  have e := eql33 k k w
  rw [decide_eq_true rfl] at e
  have e2 : (eqGuard .eql 33 x y k.agg k.agg).run Tryz.prog w = .ok () w := by kernel_rfl
  unfold execOp
  simp only [ho, hx, hy]
  simp [e, e2]
theorem below_st {w X Y : World} {b : Nat} (h : Below w.heap.size w X) (hf : Fr X Y [b]) (hb : w.heap.size ≤ b) : Below w.heap.size w Y :=
  ((Fr.of_below h []).trans hf (fun c hc => .inr (by obtain rfl : c = b := (by simpa using hc); exact hb))).below
set_option maxRecDepth 100000 in
theorem play_at_out (S : PS) (k : KK) (d : DD) (inner : Value) (dep : Int) (w : World) (base N : Nat) (hS : S.Is w base N) (hN : N < 3000) (nn : Int) (ho : nn < 0 ∨ (S.T0.live.length : Int) ≤ nn) : Calls Tryz.prog 8 #[.pointer (some ⟨S.P, 0, none⟩), actV 6 k d nn inner, .int .i64 dep] w fun e w' => e = .returned (.bool true) ∧ ∃ S', S'.Is w' base (N + 1) ∧ Went S S' w w' := by
  have hes := hS.es0
  have hle := hS.rel0.len
  have C22 : Hid (∀ X, Below w.heap.size w X → Calls Tryz.prog 22 #[.pointer (some ⟨S.T0.t, 0, none⟩), .int .i64 nn] X fun e w' => e = .returned (.tuple #[.agg (zeroK.cs ++ zeroD.cs).toArray, .bool false]) ∧ Below X.heap.size X w') := hide (fun X hX => at_out S.T0 nn X (hS.bs.t0.on hX) ho)
  have C23 : Hid (∀ X, Below w.heap.size w X → Calls Tryz.prog 23 #[.pointer (some ⟨S.R0.t, 0, none⟩)] X fun e w' => ∃ A c, e = .returned (.slice A S.R0.es.length c) ∧ Below X.heap.size X w') := hide (fun X hX => by
    refine (refProps23 S.R0 X (hS.bs.r0.on hX) (by omega)).mono ?_
    rintro e w' ⟨v, rfl, h1, h2⟩
    obtain ⟨A, c, rfl⟩ := own_form h1
    exact ⟨A, c, rfl, h2⟩)
  obtain ⟨n, hn⟩ : ∃ n, n = S.R0.es.length := ⟨_, rfl⟩
  rw [← hn] at C23
  rw [hle, ← hn] at ho
  have HS0 : ∀ X, Below w.heap.size w X → S.Is X base N := fun X hX => hS.on hX
  clear hes hle hn
  have HP := hide hS.bs.hold
  have HLT := hide hS.bs.lt
  have HS := hide hS
  clear hS
  unfold actV
  go_enter Tryz.func8, Tryz.ntmps8
  go_wp2_with (first | go_skip | (refine bx 41 (actCs 6 k d nn inner) (by rfl) rfl rfl rfl (Nat.succ_pos _) (Hq.nil w S.T0.blocks) ?_; intro w1 B hB L1 hb1; replace HP := hide ((unhide HS).bs.on hb1).hold; replace HS := hide ((unhide HS).on hb1); have LL := hide L1; have HB1 := hide hb1; have HB := hide hB; clear hB L1 hb1; simp only [Act.put, List.setIfInBounds_toArray, List.set_cons_succ, List.set_cons_zero]) | (refine rd (by rfl) (ex_load1 26 Tryz.isAgg26 rfl rfl (unhide HP) rfl) ?_; simp only [Act.put, List.setIfInBounds_toArray, List.set_cons_succ, List.set_cons_zero]) | (refine rd (by rfl) (ex_load1 28 Tryz.isAgg28 rfl rfl (unhide HP) rfl) ?_; simp only [Act.put, List.setIfInBounds_toArray, List.set_cons_succ, List.set_cons_zero]) | (refine rd (by rfl) (ex_load1 3 Tryz.isAgg3 rfl rfl ((unhide LL).get 0 rfl) rfl) ?_; simp only [Act.put, List.setIfInBounds_toArray, List.set_cons_succ, List.set_cons_zero]))
  refine ((unhide C22) w1 (unhide HB1)).mono ?_
  rintro _ w2 ⟨rfl, hb⟩
  replace LL := hide ((unhide LL).on hb)
  have HX := hide ((unhide HB1).trans (hb.mono (unhide HB1).size))
  have HG : Hid (w.heap.size ≤ w2.heap.size) := hide (unhide LL).fr.size
  clear hb HB1 C22 HP
  go_wp2_with (first | go_skip | ((with_reducible show wpList _ _ _ _ _ _); first | ((refine al58 (by rfl) rfl (unhide LL) ?_); intro w3 B3 hB3 L3 hb3; replace HG : Hid (w.heap.size ≤ B3) := hide (Nat.le_trans (unhide LL).fr.size (Nat.le_of_eq hB3.symm)); replace LL := hide L3; replace HX := hide ((unhide HX).trans (hb3.mono (unhide HX).size)); (skip); clear L3 hB3 hb3; simp only [Act.put, List.setIfInBounds_toArray, List.set_cons_succ, List.set_cons_zero]) | ((with_reducible apply st (vs := (zeroK.cs ++ zeroD.cs)) (v := .agg (zeroK.cs ++ zeroD.cs).toArray) (b := B3) (p := 0) 1 58); (case hw => rfl); (case ho => rfl); (case hx => rfl); (case hy => rfl); (case hv => rfl); (case h1 => exact onekd _ _); (case hi => exact siz58v _ rfl); (case hL => exact unhide LL); (case hg => rfl); (case hp => simp [cput, zeroK, zeroD, zeroV, KK.cs, DD.cs, VV.cs]); (case hE => exact Or.inr (unhide HG)); intro w3 L3 hf3 hs3; replace LL := hide L3; (replace HX : Hid (Below w.heap.size w w3) := hide (below_st (unhide HX) hf3 (unhide HG))); clear L3 hf3 hs3; simp only [Act.put, List.setIfInBounds_toArray, List.set_cons_succ, List.set_cons_zero])))
  refine ((unhide C23) w3 (unhide HX)).mono ?_
  rintro _ w4 ⟨A, c, rfl, hb⟩
  replace LL := hide ((unhide LL).on hb)
  replace HX := hide ((unhide HX).trans (hb.mono (unhide HX).size))
  clear hb C23
  by_cases h0 : nn < 0
  · have h0' : ¬ (0 : Int) ≤ nn := by omega
    clear ho
    go_wp2_with (first | go_skip | ((with_reducible show wpList _ _ _ _ _ _); first | ((refine al58 (by rfl) rfl (unhide LL) ?_); intro w3 B3 hB3 L3 hb3; replace HG : Hid (w.heap.size ≤ B3) := hide (Nat.le_trans (unhide LL).fr.size (Nat.le_of_eq hB3.symm)); replace LL := hide L3; replace HX := hide ((unhide HX).trans (hb3.mono (unhide HX).size)); (skip); clear L3 hB3 hb3; simp only [Act.put, List.setIfInBounds_toArray, List.set_cons_succ, List.set_cons_zero]) | ((refine rd (by rfl) (ex_load1 3 Tryz.isAgg3 rfl rfl ((unhide LL).get 0 rfl) rfl) ?_); simp only [Act.put, List.setIfInBounds_toArray, List.set_cons_succ, List.set_cons_zero]) | ((refine rd (by rfl) (ex_build58z rfl) ?_); simp only [Act.put, List.setIfInBounds_toArray, List.set_cons_succ, List.set_cons_zero]) | ((with_reducible apply st (vs := (zeroK.cs ++ zeroD.cs)) (v := .agg (zeroK.cs ++ zeroD.cs).toArray) (b := B3) (p := 0) 2 58); (case hw => rfl); (case ho => rfl); (case hx => rfl); (case hy => rfl); (case hv => rfl); (case h1 => exact onekd _ _); (case hi => exact siz58v _ rfl); (case hL => exact unhide LL); (case hg => rfl); (case hp => simp [cput, zeroK, zeroD, zeroV, KK.cs, DD.cs, VV.cs]); (case hE => exact Or.inr (unhide HG)); intro w3 L3 hf3 hs3; replace LL := hide L3; (replace HX : Hid (Below w.heap.size w w3) := hide (below_st (unhide HX) hf3 (unhide HG))); clear L3 hf3 hs3; simp only [Act.put, List.setIfInBounds_toArray, List.set_cons_succ, List.set_cons_zero]) | ((refine rd (by rfl) (ex_loadN (vs := zeroK.cs) 33 2 row33x siz33 rfl rfl ((unhide LL).get 1 rfl) rfl rfl) ?_); simp only [Act.put, List.setIfInBounds_toArray, List.set_cons_succ, List.set_cons_zero]) | ((refine rd (by rfl) (ex_loadN (vs := zeroK.cs) 33 2 row33x siz33 rfl rfl ((unhide LL).get 2 rfl) rfl rfl) ?_); simp only [Act.put, List.setIfInBounds_toArray, List.set_cons_succ, List.set_cons_zero]) | ((refine rd (by rfl) (ex_loadN (vs := zeroD.cs) 39 18 row39 siz39 rfl rfl ((unhide LL).get 1 rfl) rfl rfl) ?_); simp only [Act.put, List.setIfInBounds_toArray, List.set_cons_succ, List.set_cons_zero]) | ((refine rd (by rfl) (ex_loadN (vs := zeroD.cs) 39 18 row39 siz39 rfl rfl ((unhide LL).get 2 rfl) rfl rfl) ?_); simp only [Act.put, List.setIfInBounds_toArray, List.set_cons_succ, List.set_cons_zero]) | ((refine rd (by rfl) (ex_eql33 zeroK rfl rfl rfl) ?_); simp only [Act.put, List.setIfInBounds_toArray, List.set_cons_succ, List.set_cons_zero])))
    refine (sameDesc21 zeroD _).mono ?_
    rintro _ w6 ⟨rfl, hb⟩
    replace HX := hide ((unhide HX).trans (hb.mono (unhide HX).size))
    clear hb
    go_wp2
    go_ret
    exact ⟨rfl, S, ((HS0 _ (unhide HX))).mono (Nat.le_succ _), Went.refl S (unhide HX)⟩
  · have h0' : (0 : Int) ≤ nn := by omega
    have h1' : decide (nn < (n : Int)) = false := decide_eq_false (by omega)
    clear ho
    go_wp2_with (first | go_skip | ((with_reducible show wpList _ _ _ _ _ _); first | ((refine al58 (by rfl) rfl (unhide LL) ?_); intro w3 B3 hB3 L3 hb3; replace HG : Hid (w.heap.size ≤ B3) := hide (Nat.le_trans (unhide LL).fr.size (Nat.le_of_eq hB3.symm)); replace LL := hide L3; replace HX := hide ((unhide HX).trans (hb3.mono (unhide HX).size)); (skip); clear L3 hB3 hb3; simp only [Act.put, List.setIfInBounds_toArray, List.set_cons_succ, List.set_cons_zero]) | ((refine rd (by rfl) (ex_load1 3 Tryz.isAgg3 rfl rfl ((unhide LL).get 0 rfl) rfl) ?_); simp only [Act.put, List.setIfInBounds_toArray, List.set_cons_succ, List.set_cons_zero]) | ((refine rd (by rfl) (ex_build58z rfl) ?_); simp only [Act.put, List.setIfInBounds_toArray, List.set_cons_succ, List.set_cons_zero]) | ((with_reducible apply st (vs := (zeroK.cs ++ zeroD.cs)) (v := .agg (zeroK.cs ++ zeroD.cs).toArray) (b := B3) (p := 0) 2 58); (case hw => rfl); (case ho => rfl); (case hx => rfl); (case hy => rfl); (case hv => rfl); (case h1 => exact onekd _ _); (case hi => exact siz58v _ rfl); (case hL => exact unhide LL); (case hg => rfl); (case hp => simp [cput, zeroK, zeroD, zeroV, KK.cs, DD.cs, VV.cs]); (case hE => exact Or.inr (unhide HG)); intro w3 L3 hf3 hs3; replace LL := hide L3; (replace HX : Hid (Below w.heap.size w w3) := hide (below_st (unhide HX) hf3 (unhide HG))); clear L3 hf3 hs3; simp only [Act.put, List.setIfInBounds_toArray, List.set_cons_succ, List.set_cons_zero]) | ((refine rd (by rfl) (ex_loadN (vs := zeroK.cs) 33 2 row33x siz33 rfl rfl ((unhide LL).get 1 rfl) rfl rfl) ?_); simp only [Act.put, List.setIfInBounds_toArray, List.set_cons_succ, List.set_cons_zero]) | ((refine rd (by rfl) (ex_loadN (vs := zeroK.cs) 33 2 row33x siz33 rfl rfl ((unhide LL).get 2 rfl) rfl rfl) ?_); simp only [Act.put, List.setIfInBounds_toArray, List.set_cons_succ, List.set_cons_zero]) | ((refine rd (by rfl) (ex_loadN (vs := zeroD.cs) 39 18 row39 siz39 rfl rfl ((unhide LL).get 1 rfl) rfl rfl) ?_); simp only [Act.put, List.setIfInBounds_toArray, List.set_cons_succ, List.set_cons_zero]) | ((refine rd (by rfl) (ex_loadN (vs := zeroD.cs) 39 18 row39 siz39 rfl rfl ((unhide LL).get 2 rfl) rfl rfl) ?_); simp only [Act.put, List.setIfInBounds_toArray, List.set_cons_succ, List.set_cons_zero]) | ((refine rd (by rfl) (ex_eql33 zeroK rfl rfl rfl) ?_); simp only [Act.put, List.setIfInBounds_toArray, List.set_cons_succ, List.set_cons_zero])))
    refine (sameDesc21 zeroD _).mono ?_
    rintro _ w6 ⟨rfl, hb⟩
    replace HX := hide ((unhide HX).trans (hb.mono (unhide HX).size))
    clear hb
    go_wp2
    go_ret
    exact ⟨rfl, S, ((HS0 _ (unhide HX))).mono (Nat.le_succ _), Went.refl S (unhide HX)⟩
end Go.Proofs.YtpbdidnphkkenaaGreatDoor

/-! Pc -/
namespace Go.Proofs.YtpbdidnphkkenaaGreatDoor
open Go Go.Proofs Go.Maps Go.RowKit
set_option linter.unusedSimpArgs false
set_option linter.unusedVariables false
set_option maxHeartbeats 1000000
theorem rng_on {X Y : World} {g p : Nat} {vs : List Value} (h : X.rangeAt g p vs) (he : Y.heap[g]? = X.heap[g]?) : Y.rangeAt g p vs := fun i v hv => (World.cell?_of_block he).trans (h i v hv)
set_option maxRecDepth 100000 in
theorem play_at_in (S : PS) (k : KK) (d : DD) (inner : Value) (dep : Int) (w : World) (base N : Nat) (hS : S.Is w base N) (hN : N < 3000) (j : Nat) (hj : j < S.T0.live.length) : Calls Tryz.prog 8 #[.pointer (some ⟨S.P, 0, none⟩), actV 6 k d (j : Nat) inner, .int .i64 dep] w fun e w' => e = .returned (.bool true) ∧ ∃ S', S'.Is w' base (N + 1) ∧ Went S S' w w' := by
  have hes := hS.es0
  have hle := hS.rel0.len
  have hla := hS.last.1
  obtain ⟨r, hr⟩ : ∃ r, r = S.T0.live[j] := ⟨_, rfl⟩
  have hpr : (S.R0.es.map EE.pr)[j]? = some (r.k, r.d) := by
    rw [← hS.rel0, hr]
    simp [hj, RR.pr]
  have C22 : Hid (∀ X, S.T0.Is X → Calls Tryz.prog 22 #[.pointer (some ⟨S.T0.t, 0, none⟩), .int .i64 j] X fun e w' => e = .returned (.tuple #[.agg (r.k.cs ++ r.d.cs).toArray, .bool true]) ∧ ∃ T', TT.To S.T0 T' X w' ∧ T'.live = S.T0.live) := hide (fun X hX => by rw [hr]; exact at_in S.T0 j X hX (by omega) hj)
  have C23 : Hid (∀ X, S.R0.Is X → Calls Tryz.prog 23 #[.pointer (some ⟨S.R0.t, 0, none⟩)] X fun e w' => ∃ g c, e = .returned (.slice (some ⟨g, 0, none⟩) S.R0.es.length c) ∧ Below X.heap.size X w' ∧ g < w'.heap.size ∧ w'.rangeAt g (j * 20) (r.k.cs ++ r.d.cs)) := hide (fun X hX => by
    refine (refProps23 S.R0 X hX (by omega)).mono ?_
    rintro e w' ⟨v, rfl, h1, h2⟩
    obtain ⟨A, c, rfl⟩ := own_form h1
    obtain ⟨g, rfl, -, hgl⟩ := own_some h1 (by omega)
    refine ⟨g, c, rfl, h2, hgl, ?_⟩
    have h3 := own_rows (f := fun x : KK × DD => x.1.cs ++ x.2.cs) (s := 20) (fun _ => rfl) h1 j (by simp; omega)
    have e3 : (S.R0.es.map (fun x => (x.k, x.d)))[j]'(by simp; omega) = (r.k, r.d) := by
      have := List.getElem?_eq_some_iff.1 hpr
      exact this.2
    rw [e3] at h3
    exact h3)
  obtain ⟨n, hn⟩ : ∃ n, n = S.R0.es.length := ⟨_, rfl⟩
  rw [← hn] at C23
  have hjn : j < n := by omega
  have hjz : (j : Int) < (n : Int) := by omega
  have hjd : decide ((j : Int) < (n : Int)) = true := decide_eq_true hjz
  clear hes hle hn hpr hr hj hla
  have HP := hide hS.bs.hold
  have HLT := hide hS.bs.lt
  have HS := hide hS
  clear hS
  unfold actV
  go_enter Tryz.func8, Tryz.ntmps8
  go_wp2_with (first | go_skip | (refine bx 41 (actCs 6 k d (j : Nat) inner) (by rfl) rfl rfl rfl (Nat.succ_pos _) (Hq.nil w S.T0.blocks) ?_; intro w1 B hB L1 hb1; replace HP := hide ((unhide HS).bs.on hb1).hold; replace HS := hide ((unhide HS).on hb1); have LL := hide L1; have HB1 := hide hb1; have HB := hide hB; clear hB L1 hb1; simp only [Act.put, List.setIfInBounds_toArray, List.set_cons_succ, List.set_cons_zero]) | (refine rd (by rfl) (ex_load1 26 Tryz.isAgg26 rfl rfl (unhide HP) rfl) ?_; simp only [Act.put, List.setIfInBounds_toArray, List.set_cons_succ, List.set_cons_zero]) | (refine rd (by rfl) (ex_load1 28 Tryz.isAgg28 rfl rfl (unhide HP) rfl) ?_; simp only [Act.put, List.setIfInBounds_toArray, List.set_cons_succ, List.set_cons_zero]) | (refine rd (by rfl) (ex_load1 3 Tryz.isAgg3 rfl rfl ((unhide LL).get 0 rfl) rfl) ?_; simp only [Act.put, List.setIfInBounds_toArray, List.set_cons_succ, List.set_cons_zero]))
  refine ((unhide C22) w1 (unhide HS).bs.t0).mono ?_
  rintro _ w2 ⟨rfl, T', hTo, hlv⟩
  have hR2 := (unhide HS).bs.r0.fr hTo.fr ((unhide HS).bs.d 1 3 _ _ rfl rfl (by omega)).symm
  obtain ⟨S', hS', hW'⟩ := (unhide HS).same0 hTo hlv
  have HR2 : Hid (∀ X, Below w2.heap.size w2 X → S.R0.Is X) := hide (fun X hX => hR2.on hX)
  have HF : Hid (∀ X, Below w2.heap.size w2 X → ∃ S', PS.Is S' X base (N + 1) ∧ Went S S' w X) := hide (fun X hX => ⟨S', hS'.on hX, (Went.refl S (unhide HB1)).trans (hW'.trans (Went.refl S' hX))⟩)
  replace LL := hide ((unhide LL).step hTo.fr (fun b hb => .inl hb) (fun q hq hm => by
    obtain rfl : q = (B, actCs 6 k d (j : Nat) inner) := by simpa using hq
    have h1 := (unhide HLT) S.T0.blocks (by simp [PS.parts]) B hm
    have e := unhide HB
    omega))
  have HX : Hid (Below w2.heap.size w2 w2) := hide (Below.refl _ _)
  have HG : Hid (w.heap.size ≤ w2.heap.size) := hide (unhide LL).fr.size
  clear hTo hlv hR2 hS' hW' C22 HP HS HB1
  go_wp2_with (first | go_skip | ((with_reducible show wpList _ _ _ _ _ _); first | ((refine al58 (by rfl) rfl (unhide LL) ?_); intro w3 B3 hB3 L3 hb3; replace HG : Hid (w.heap.size ≤ B3) := hide (Nat.le_trans (unhide LL).fr.size (Nat.le_of_eq hB3.symm)); replace LL := hide L3; have HG2 : Hid (w2.heap.size ≤ B3) := hide (Nat.le_of_eq hB3.symm); replace HX := hide ((unhide HX).trans (hb3.mono (unhide HX).size)); clear L3 hB3 hb3; simp only [Act.put, List.setIfInBounds_toArray, List.set_cons_succ, List.set_cons_zero]) | ((with_reducible apply st (vs := (r.k.cs ++ r.d.cs)) (v := .agg (r.k.cs ++ r.d.cs).toArray) (b := B3) (p := 0) 1 58); (case hw => rfl); (case ho => rfl); (case hx => rfl); (case hy => rfl); (case hv => rfl); (case h1 => exact onekd _ _); (case hi => exact siz58v _ rfl); (case hL => exact unhide LL); (case hg => rfl); (case hp => simp [cput, zeroK, zeroD, zeroV, KK.cs, DD.cs, VV.cs]); (case hE => exact Or.inr (unhide HG)); intro w3 L3 hf3 hs3; replace LL := hide L3; (replace HX : Hid (Below w2.heap.size w2 w3) := hide (below_st (unhide HX) hf3 (unhide HG2))); clear L3 hf3 hs3; simp only [Act.put, List.setIfInBounds_toArray, List.set_cons_succ, List.set_cons_zero])))
  refine ((unhide C23) w3 ((unhide HR2) _ (unhide HX))).mono ?_
  rintro _ w4 ⟨g, c, rfl, hb, hgl, hrg⟩
  replace LL := hide ((unhide LL).on hb)
  replace HX := hide ((unhide HX).trans (hb.mono (unhide HX).size))
  have HRG := hide hrg
  have Hgl := hide hgl
  clear hb hrg hgl C23 HR2
  go_wp2_with (first | go_skip | ((with_reducible show wpList _ _ _ _ _ _); first | ((refine al58 (by rfl) rfl (unhide LL) ?_); intro w3 B3 hB3 L3 hb3; replace HG : Hid (w.heap.size ≤ B3) := hide (Nat.le_trans (unhide LL).fr.size (Nat.le_of_eq hB3.symm)); replace LL := hide L3; have HG2 : Hid (w2.heap.size ≤ B3) := hide (Nat.le_trans (unhide HX).size (Nat.le_of_eq hB3.symm)); replace HRG := hide (rng_on (unhide HRG) (hb3.block g (unhide Hgl))); have Hgb : Hid (g ≠ B3 ∧ g < w3.heap.size) := hide ⟨by have h1 := unhide Hgl; omega, by have h1 := unhide Hgl; have h2 := hb3.size; omega⟩; replace HX := hide ((unhide HX).trans (hb3.mono (unhide HX).size)); clear L3 hB3 hb3; simp only [Act.put, List.setIfInBounds_toArray, List.set_cons_succ, List.set_cons_zero]) | ((refine rd (by rfl) (ex_load1 3 Tryz.isAgg3 rfl rfl ((unhide LL).get 0 rfl) rfl) ?_); simp only [Act.put, List.setIfInBounds_toArray, List.set_cons_succ, List.set_cons_zero]) | ((refine rd (by rfl) (ex_build58z rfl) ?_); simp only [Act.put, List.setIfInBounds_toArray, List.set_cons_succ, List.set_cons_zero]) | ((with_reducible apply st (vs := (zeroK.cs ++ zeroD.cs)) (v := .agg (zeroK.cs ++ zeroD.cs).toArray) (b := B3) (p := 0) 2 58); (case hw => rfl); (case ho => rfl); (case hx => rfl); (case hy => rfl); (case hv => rfl); (case h1 => exact onekd _ _); (case hi => exact siz58v _ rfl); (case hL => exact unhide LL); (case hg => rfl); (case hp => simp [cput, zeroK, zeroD, zeroV, KK.cs, DD.cs, VV.cs]); (case hE => exact Or.inr (unhide HG)); intro w3 L3 hf3 hs3; replace LL := hide L3; (replace HX : Hid (Below w2.heap.size w2 w3) := hide (below_st (unhide HX) hf3 (unhide HG2))); (replace HRG := hide (rng_on (unhide HRG) (hf3.block g (unhide Hgb).2 (by simpa using (unhide Hgb).1)))); (replace Hgb : Hid (g ≠ B3 ∧ g < w3.heap.size) := hide ⟨(unhide Hgb).1, (by have h1 := (unhide Hgb).2; omega)⟩); clear L3 hf3 hs3; simp only [Act.put, List.setIfInBounds_toArray, List.set_cons_succ, List.set_cons_zero]) | ((with_reducible apply st (vs := (r.k.cs ++ r.d.cs)) (v := .agg (r.k.cs ++ r.d.cs).toArray) (b := B3) (p := 0) 2 58); (case hw => rfl); (case ho => rfl); (case hx => rfl); (case hy => rfl); (case hv => rfl); (case h1 => exact onekd _ _); (case hi => exact siz58v _ rfl); (case hL => exact unhide LL); (case hg => rfl); (case hp => simp [cput, zeroK, zeroD, zeroV, KK.cs, DD.cs, VV.cs]); (case hE => exact Or.inr (unhide HG)); intro w3 L3 hf3 hs3; replace LL := hide L3; (replace HX : Hid (Below w2.heap.size w2 w3) := hide (below_st (unhide HX) hf3 (unhide HG2))); (replace HRG := hide (rng_on (unhide HRG) (hf3.block g (unhide Hgb).2 (by simpa using (unhide Hgb).1)))); (replace Hgb : Hid (g ≠ B3 ∧ g < w3.heap.size) := hide ⟨(unhide Hgb).1, (by have h1 := (unhide Hgb).2; omega)⟩); clear L3 hf3 hs3; simp only [Act.put, List.setIfInBounds_toArray, List.set_cons_succ, List.set_cons_zero]) | ((refine rd (by rfl) (ex_index61 j rfl rfl rfl hjn) ?_); simp only [Act.put, List.setIfInBounds_toArray, List.set_cons_succ, List.set_cons_zero]) | ((refine rd (by rfl) (ex_loadR (vs := r.k.cs ++ r.d.cs) 58 20 row58 siz58 rfl rfl (unhide HRG) rfl) ?_); simp only [Act.put, List.setIfInBounds_toArray, List.set_cons_succ, List.set_cons_zero]) | ((refine rd (by rfl) (ex_loadN (vs := r.k.cs) 33 2 row33x siz33 rfl rfl ((unhide LL).get 1 rfl) rfl rfl) ?_); simp only [Act.put, List.setIfInBounds_toArray, List.set_cons_succ, List.set_cons_zero]) | ((refine rd (by rfl) (ex_loadN (vs := r.k.cs) 33 2 row33x siz33 rfl rfl ((unhide LL).get 2 rfl) rfl rfl) ?_); simp only [Act.put, List.setIfInBounds_toArray, List.set_cons_succ, List.set_cons_zero]) | ((refine rd (by rfl) (ex_loadN (vs := r.d.cs) 39 18 row39 siz39 rfl rfl ((unhide LL).get 1 rfl) rfl rfl) ?_); simp only [Act.put, List.setIfInBounds_toArray, List.set_cons_succ, List.set_cons_zero]) | ((refine rd (by rfl) (ex_loadN (vs := r.d.cs) 39 18 row39 siz39 rfl rfl ((unhide LL).get 2 rfl) rfl rfl) ?_); simp only [Act.put, List.setIfInBounds_toArray, List.set_cons_succ, List.set_cons_zero]) | ((refine rd (by rfl) (ex_eql33 r.k rfl rfl rfl) ?_); simp only [Act.put, List.setIfInBounds_toArray, List.set_cons_succ, List.set_cons_zero])))
  refine (sameDesc21 r.d _).mono ?_
  rintro _ w6 ⟨rfl, hb⟩
  replace HX := hide ((unhide HX).trans (hb.mono (unhide HX).size))
  clear hb
  go_wp2
  go_ret
  exact ⟨rfl, (unhide HF) _ (unhide HX)⟩
end Go.Proofs.YtpbdidnphkkenaaGreatDoor

/-! Pd -/
namespace Go.Proofs.YtpbdidnphkkenaaGreatDoor
open Go Go.Proofs Go.Maps Go.RowKit
set_option linter.unusedSimpArgs false
set_option linter.unusedVariables false
set_option maxHeartbeats 1000000
/-- Both tables of each side are exchanged. -/
def PS.swap (S : PS) : PS := ⟨S.P, S.T1, S.T0, S.R1, S.R0, S.left⟩
theorem PS.Is.swapped {S : PS} {W W' : World} {base N : Nat} (h : S.Is W base N) (hf : Fr W W' [S.P]) (hc : Holds W' S.P S.swap.cs) : S.swap.Is W' base N ∧ Went S S.swap W W' := by
  have n : ∀ i B, S.parts[i]? = some B → 0 < i → ∀ b ∈ B, b ∉ [S.P] := fun i B hi h0 b hb hm => by
    obtain rfl : b = S.P := by simpa using hm
    exact h.bs.d 0 i _ _ rfl hi h0 S.P (by simp) hb
  have hmem : ∀ b, b ∈ S.swap.parts.flatten ↔ b ∈ S.parts.flatten := fun b => by
    simp only [PS.parts, PS.swap, List.flatten_cons, List.flatten_nil, List.mem_append, List.append_nil]
    constructor
    · rintro (h | h | h | h | h)
      · exact .inl h
      · exact .inr (.inr (.inl h))
      · exact .inr (.inl h)
      · exact .inr (.inr (.inr (.inr h)))
      · exact .inr (.inr (.inr (.inl h)))
    · rintro (h | h | h | h | h)
      · exact .inl h
      · exact .inr (.inr (.inl h))
      · exact .inr (.inl h)
      · exact .inr (.inr (.inr (.inr h)))
      · exact .inr (.inr (.inr (.inl h)))
  have d := h.bs.d
  refine ⟨⟨⟨hc, h.bs.t1.fr hf (n 2 _ rfl (by omega)), h.bs.t0.fr hf (n 1 _ rfl (by omega)), h.bs.r1.fr hf (n 4 _ rfl (by omega)), h.bs.r0.fr hf (n 3 _ rfl (by omega)), ?_, ?_, h.bs.four, Nat.le_trans h.bs.size hf.size⟩, h.rel1, h.rel0, ⟨h.last.2, h.last.1⟩, ⟨h.nx.2.2.1, h.nx.2.2.2, h.nx.1, h.nx.2.1⟩⟩, rfl, hf.mono (fun b hb => .inl ?_), fun b hb => .inl ((hmem b).1 hb)⟩
  · unfold PS.parts PS.swap
    refine List.pairwise_cons.2 ⟨?_, List.pairwise_cons.2 ⟨?_, List.pairwise_cons.2 ⟨?_, List.pairwise_cons.2 ⟨?_, List.pairwise_cons.2 ⟨?_, List.Pairwise.nil⟩⟩⟩⟩⟩
    · intro B hB
      simp only [List.mem_cons, List.not_mem_nil, or_false] at hB
      rcases hB with rfl | rfl | rfl | rfl
      · exact d 0 2 _ _ rfl rfl (by omega)
      · exact d 0 1 _ _ rfl rfl (by omega)
      · exact d 0 4 _ _ rfl rfl (by omega)
      · exact d 0 3 _ _ rfl rfl (by omega)
    · intro B hB
      simp only [List.mem_cons, List.not_mem_nil, or_false] at hB
      rcases hB with rfl | rfl | rfl
      · exact (d 1 2 _ _ rfl rfl (by omega)).symm
      · exact d 2 4 _ _ rfl rfl (by omega)
      · exact d 2 3 _ _ rfl rfl (by omega)
    · intro B hB
      simp only [List.mem_cons, List.not_mem_nil, or_false] at hB
      rcases hB with rfl | rfl
      · exact d 1 4 _ _ rfl rfl (by omega)
      · exact d 1 3 _ _ rfl rfl (by omega)
    · intro B hB
      obtain rfl : B = S.R0.blocks := by simpa using hB
      exact (d 3 4 _ _ rfl rfl (by omega)).symm
    · intro B hB
      cases hB
  · intro B hB b hb
    obtain ⟨C, hC, hbC⟩ := List.mem_flatten.1 ((hmem b).1 (List.mem_flatten.2 ⟨B, hB, hb⟩))
    exact h.bs.low C hC b hbC
  · obtain rfl : b = S.P := by simpa using hb
    exact List.mem_flatten.2 ⟨[S.P], by simp [PS.parts], by simp⟩
theorem siz26 : (Tryz.prog.info? 26).map (·.size) = some 1 := by kernel_rfl
theorem siz28 : (Tryz.prog.info? 28).map (·.size) = some 1 := by kernel_rfl
set_option maxRecDepth 100000 in
theorem play_swap (S : PS) (k : KK) (d : DD) (nn : Int) (inner : Value) (dep : Int) (w : World) (base N : Nat) (hS : S.Is w base N) (hN : N < 3000) : Calls Tryz.prog 8 #[.pointer (some ⟨S.P, 0, none⟩), actV 10 k d nn inner, .int .i64 dep] w fun e w' => e = .returned (.bool true) ∧ ∃ S', S'.Is w' base (N + 1) ∧ Went S S' w w' := by
  have HP := hide hS.bs.hold
  have HLT := hide hS.bs.lt
  have HS := hide hS
  clear hS
  unfold actV
  go_enter Tryz.func8, Tryz.ntmps8
  go_wp2_with (first | go_skip | (refine bx 41 (actCs 10 k d nn inner) (by rfl) rfl rfl rfl (Nat.succ_pos _) (Hq.nil w []) ?_; intro w1 B hB L1 hb1; replace HP := hide ((unhide HS).bs.on hb1).hold; replace HS := hide ((unhide HS).on hb1); have LL := hide L1; have HB1 := hide hb1; have HB := hide hB; clear hB L1 hb1; simp only [Act.put, List.setIfInBounds_toArray, List.set_cons_succ, List.set_cons_zero]) | (refine rd (by rfl) (ex_load1 26 Tryz.isAgg26 rfl rfl (unhide HP) rfl) ?_; simp only [Act.put, List.setIfInBounds_toArray, List.set_cons_succ, List.set_cons_zero]) | (refine rd (by rfl) (ex_load1 28 Tryz.isAgg28 rfl rfl (unhide HP) rfl) ?_; simp only [Act.put, List.setIfInBounds_toArray, List.set_cons_succ, List.set_cons_zero]) | (refine rd (by rfl) (ex_load1 3 Tryz.isAgg3 rfl rfl ((unhide LL).get 0 rfl) rfl) ?_; simp only [Act.put, List.setIfInBounds_toArray, List.set_cons_succ, List.set_cons_zero]))
  refine wp_region_held_drew (P := Tryz.prog) (S := fun _ => True) (by kernel_rfl) trivial (fun hS0 => ?_)
  have hC : Holds w1.drew S.P [.pointer (some ⟨S.T0.t, 0, none⟩), .pointer (some ⟨S.T1.t, 0, none⟩), .pointer (some ⟨S.R0.t, 0, none⟩), .pointer (some ⟨S.R1.t, 0, none⟩), .int .i64 S.left] := (unhide HP).block rfl
  refine gsem 0 (some 170) (.pointer (some ⟨S.P, 0, none⟩)) rfl (by kernel_rfl) (by kernel_rfl) (by kernel_rfl) (fun _ _ _ h => h) (by kernel_rfl) (by kernel_rfl) (fun _ _ => by kernel_rfl) trivial ?_
  simp only [Act.put, List.setIfInBounds_toArray, List.set_cons_succ, List.set_cons_zero]
  refine gsem 1 (some 171) (.pointer (some ⟨S.P, 0, none⟩)) rfl (by kernel_rfl) (by kernel_rfl) (by kernel_rfl) (fun _ _ _ h => h) (by kernel_rfl) (by kernel_rfl) (fun _ _ => by kernel_rfl) trivial ?_
  simp only [Act.put, List.setIfInBounds_toArray, List.set_cons_succ, List.set_cons_zero]
  refine gsem 2 (some 172) (.pointer (some ⟨S.P, 0, none⟩)) rfl (by kernel_rfl) (by kernel_rfl) (by kernel_rfl) (fun _ _ _ h => h) (by kernel_rfl) (by kernel_rfl) (fun _ _ => by kernel_rfl) trivial ?_
  simp only [Act.put, List.setIfInBounds_toArray, List.set_cons_succ, List.set_cons_zero]
  refine gsem 3 (some 173) (.pointer (some ⟨S.P, 0, none⟩)) rfl (by kernel_rfl) (by kernel_rfl) (by kernel_rfl) (fun _ _ _ h => h) (by kernel_rfl) (by kernel_rfl) (fun _ _ => by kernel_rfl) trivial ?_
  simp only [Act.put, List.setIfInBounds_toArray, List.set_cons_succ, List.set_cons_zero]
  refine gsem 4 (some 174) (.pointer (some ⟨S.P, 0, none⟩)) rfl (by kernel_rfl) (by kernel_rfl) (by kernel_rfl) (fun _ _ _ h => h) (by kernel_rfl) (by kernel_rfl) (fun _ _ => by kernel_rfl) trivial ?_
  simp only [Act.put, List.setIfInBounds_toArray, List.set_cons_succ, List.set_cons_zero]
  refine gsem 5 (some 175) (.pointer (some ⟨S.P, 1, none⟩)) rfl (by kernel_rfl) (by kernel_rfl) (by kernel_rfl) (fun _ _ _ h => h) (by kernel_rfl) (by kernel_rfl) (fun _ _ => by kernel_rfl) trivial ?_
  simp only [Act.put, List.setIfInBounds_toArray, List.set_cons_succ, List.set_cons_zero]
  refine gsem 7 (some 177) (.pointer (some ⟨S.P, 0, none⟩)) rfl (by kernel_rfl) (by kernel_rfl) (by kernel_rfl) (fun _ _ _ h => h) (by kernel_rfl) (by kernel_rfl) (fun _ _ => by kernel_rfl) trivial ?_
  simp only [Act.put, List.setIfInBounds_toArray, List.set_cons_succ, List.set_cons_zero]
  refine gsem 8 (some 178) (.pointer (some ⟨S.P, 0, none⟩)) rfl (by kernel_rfl) (by kernel_rfl) (by kernel_rfl) (fun _ _ _ h => h) (by kernel_rfl) (by kernel_rfl) (fun _ _ => by kernel_rfl) trivial ?_
  simp only [Act.put, List.setIfInBounds_toArray, List.set_cons_succ, List.set_cons_zero]
  refine gsem 9 (some 179) (.pointer (some ⟨S.P, 0, none⟩)) rfl (by kernel_rfl) (by kernel_rfl) (by kernel_rfl) (fun _ _ _ h => h) (by kernel_rfl) (by kernel_rfl) (fun _ _ => by kernel_rfl) trivial ?_
  simp only [Act.put, List.setIfInBounds_toArray, List.set_cons_succ, List.set_cons_zero]
  refine gsem 10 (some 180) (.pointer (some ⟨S.P, 0, none⟩)) rfl (by kernel_rfl) (by kernel_rfl) (by kernel_rfl) (fun _ _ _ h => h) (by kernel_rfl) (by kernel_rfl) (fun _ _ => by kernel_rfl) trivial ?_
  simp only [Act.put, List.setIfInBounds_toArray, List.set_cons_succ, List.set_cons_zero]
  refine gsem 12 (some 182) (.pointer (some ⟨S.P, 0, none⟩)) rfl (by kernel_rfl) (by kernel_rfl) (by kernel_rfl) (fun _ _ _ h => h) (by kernel_rfl) (by kernel_rfl) (fun _ _ => by kernel_rfl) trivial ?_
  simp only [Act.put, List.setIfInBounds_toArray, List.set_cons_succ, List.set_cons_zero]
  refine gsem 13 (some 183) (.pointer (some ⟨S.P, 0, none⟩)) rfl (by kernel_rfl) (by kernel_rfl) (by kernel_rfl) (fun _ _ _ h => h) (by kernel_rfl) (by kernel_rfl) (fun _ _ => by kernel_rfl) trivial ?_
  simp only [Act.put, List.setIfInBounds_toArray, List.set_cons_succ, List.set_cons_zero]
  refine gsem 16 (some 185) (.pointer (some ⟨S.P, 0, none⟩)) rfl (by kernel_rfl) (by kernel_rfl) (by kernel_rfl) (fun _ _ _ h => h) (by kernel_rfl) (by kernel_rfl) (fun _ _ => by kernel_rfl) trivial ?_
  simp only [Act.put, List.setIfInBounds_toArray, List.set_cons_succ, List.set_cons_zero]
  refine gsem 17 (some 186) (.pointer (some ⟨S.P, 0, none⟩)) rfl (by kernel_rfl) (by kernel_rfl) (by kernel_rfl) (fun _ _ _ h => h) (by kernel_rfl) (by kernel_rfl) (fun _ _ => by kernel_rfl) trivial ?_
  simp only [Act.put, List.setIfInBounds_toArray, List.set_cons_succ, List.set_cons_zero]
  refine wpAnyH_ready (rs := [6, 11]) (by kernel_rfl) (by simp) (gval 6 (some 176) rfl (by kernel_rfl) (by kernel_rfl) (ex_load1 26 Tryz.isAgg26 rfl rfl hC rfl) trivial ?_ (gval 11 (some 181) rfl (by kernel_rfl) (by kernel_rfl) (ex_load1 26 Tryz.isAgg26 rfl rfl hC rfl) trivial ?_ AllReadyH.nil))
  · simp only [Act.put, List.setIfInBounds_toArray, List.set_cons_succ, List.set_cons_zero]
    refine wpAnyH_ready (rs := [11]) (by kernel_rfl) (by simp) (gval 11 (some 181) rfl (by kernel_rfl) (by kernel_rfl) (ex_load1 26 Tryz.isAgg26 rfl rfl hC rfl) trivial ?_ AllReadyH.nil)
    simp only [Act.put, List.setIfInBounds_toArray, List.set_cons_succ, List.set_cons_zero]
    refine gsem 14 (some 184) (.pointer (some ⟨S.P, 0, none⟩)) rfl (by kernel_rfl) (by kernel_rfl) (by kernel_rfl) (fun _ _ _ h => h) (by kernel_rfl) (by kernel_rfl) (fun _ _ => by kernel_rfl) trivial ?_
    simp only [Act.put, List.setIfInBounds_toArray, List.set_cons_succ, List.set_cons_zero]
    refine wpAnyH_ready (rs := [15]) (by kernel_rfl) (by simp) (gskp 15 none rfl (by kernel_rfl) (by kernel_rfl) (ex_store (t := 26) (vs := [.pointer (some ⟨S.T1.t, 0, none⟩)]) rfl rfl rfl rfl (by simp [Value.oneCell']) siz26 hC (by simp)) trivial ?_ AllReadyH.nil)
    have hF1 := Fr.setCells w1.drew S.P 0 [.pointer (some ⟨S.T1.t, 0, none⟩)]
    have hC1 : Holds _ S.P [.pointer (some ⟨S.T1.t, 0, none⟩), .pointer (some ⟨S.T1.t, 0, none⟩), .pointer (some ⟨S.R0.t, 0, none⟩), .pointer (some ⟨S.R1.t, 0, none⟩), .int .i64 S.left] := hC.put 0 [.pointer (some ⟨S.T1.t, 0, none⟩)] (by simp)
    generalize World.setCells _ _ _ _ = y1 at *
    clear hC
    have hC := hC1
    clear hC1
    simp only [Act.put, List.setIfInBounds_toArray, List.set_cons_succ, List.set_cons_zero]
    refine gsem 18 (some 187) (.pointer (some ⟨S.P, 1, none⟩)) rfl (by kernel_rfl) (by kernel_rfl) (by kernel_rfl) (fun _ _ _ h => h) (by kernel_rfl) (by kernel_rfl) (fun _ _ => by kernel_rfl) trivial ?_
    simp only [Act.put, List.setIfInBounds_toArray, List.set_cons_succ, List.set_cons_zero]
    refine wpAnyH_ready (rs := [19]) (by kernel_rfl) (by simp) (gskp 19 none rfl (by kernel_rfl) (by kernel_rfl) (ex_store (t := 26) (vs := [.pointer (some ⟨S.T0.t, 0, none⟩)]) rfl rfl rfl rfl (by simp [Value.oneCell']) siz26 hC (by simp)) trivial ?_ AllReadyH.nil)
    have hF2 := hF1.trans (Fr.setCells y1 S.P 1 [.pointer (some ⟨S.T0.t, 0, none⟩)]) (fun b hb => .inl hb)
    have hC2 : Holds _ S.P [.pointer (some ⟨S.T1.t, 0, none⟩), .pointer (some ⟨S.T0.t, 0, none⟩), .pointer (some ⟨S.R0.t, 0, none⟩), .pointer (some ⟨S.R1.t, 0, none⟩), .int .i64 S.left] := hC.put 1 [.pointer (some ⟨S.T0.t, 0, none⟩)] (by simp)
    generalize World.setCells y1 _ _ _ = y2 at *
    clear hC hF1
    simp only [Act.put, List.setIfInBounds_toArray, List.set_cons_succ, List.set_cons_zero]
    refine wpAnyH_done (by kernel_rfl) ?_ _
    try simp only [Act.put, List.setIfInBounds_toArray, List.set_cons_succ, List.set_cons_zero]
    have hA : Fr w1 y2 [S.P] := (Fr.refl w1 [S.P]).drew.trans hF2 (fun b hb => .inl hb)
    have HA := hide hA
    have HC2 := hide hC2
    clear hA hF2 hC2
    go_wp2
    refine wp_region_held_drew (P := Tryz.prog) (S := fun _ => True) (by kernel_rfl) trivial (fun hS0 => ?_)
    have hC : Holds y2.drew S.P [.pointer (some ⟨S.T1.t, 0, none⟩), .pointer (some ⟨S.T0.t, 0, none⟩), .pointer (some ⟨S.R0.t, 0, none⟩), .pointer (some ⟨S.R1.t, 0, none⟩), .int .i64 S.left] := (unhide HC2).block rfl
    refine gsem 0 (some 188) (.pointer (some ⟨S.P, 0, none⟩)) rfl (by kernel_rfl) (by kernel_rfl) (by kernel_rfl) (fun _ _ _ h => h) (by kernel_rfl) (by kernel_rfl) (fun _ _ => by kernel_rfl) trivial ?_
    simp only [Act.put, List.setIfInBounds_toArray, List.set_cons_succ, List.set_cons_zero]
    refine gsem 1 (some 189) (.pointer (some ⟨S.P, 0, none⟩)) rfl (by kernel_rfl) (by kernel_rfl) (by kernel_rfl) (fun _ _ _ h => h) (by kernel_rfl) (by kernel_rfl) (fun _ _ => by kernel_rfl) trivial ?_
    simp only [Act.put, List.setIfInBounds_toArray, List.set_cons_succ, List.set_cons_zero]
    refine gsem 2 (some 190) (.pointer (some ⟨S.P, 0, none⟩)) rfl (by kernel_rfl) (by kernel_rfl) (by kernel_rfl) (fun _ _ _ h => h) (by kernel_rfl) (by kernel_rfl) (fun _ _ => by kernel_rfl) trivial ?_
    simp only [Act.put, List.setIfInBounds_toArray, List.set_cons_succ, List.set_cons_zero]
    refine gsem 3 (some 191) (.pointer (some ⟨S.P, 0, none⟩)) rfl (by kernel_rfl) (by kernel_rfl) (by kernel_rfl) (fun _ _ _ h => h) (by kernel_rfl) (by kernel_rfl) (fun _ _ => by kernel_rfl) trivial ?_
    simp only [Act.put, List.setIfInBounds_toArray, List.set_cons_succ, List.set_cons_zero]
    refine gsem 4 (some 192) (.pointer (some ⟨S.P, 2, none⟩)) rfl (by kernel_rfl) (by kernel_rfl) (by kernel_rfl) (fun _ _ _ h => h) (by kernel_rfl) (by kernel_rfl) (fun _ _ => by kernel_rfl) trivial ?_
    simp only [Act.put, List.setIfInBounds_toArray, List.set_cons_succ, List.set_cons_zero]
    refine gsem 5 (some 193) (.pointer (some ⟨S.P, 3, none⟩)) rfl (by kernel_rfl) (by kernel_rfl) (by kernel_rfl) (fun _ _ _ h => h) (by kernel_rfl) (by kernel_rfl) (fun _ _ => by kernel_rfl) trivial ?_
    simp only [Act.put, List.setIfInBounds_toArray, List.set_cons_succ, List.set_cons_zero]
    refine gsem 7 (some 195) (.pointer (some ⟨S.P, 0, none⟩)) rfl (by kernel_rfl) (by kernel_rfl) (by kernel_rfl) (fun _ _ _ h => h) (by kernel_rfl) (by kernel_rfl) (fun _ _ => by kernel_rfl) trivial ?_
    simp only [Act.put, List.setIfInBounds_toArray, List.set_cons_succ, List.set_cons_zero]
    refine gsem 8 (some 196) (.pointer (some ⟨S.P, 0, none⟩)) rfl (by kernel_rfl) (by kernel_rfl) (by kernel_rfl) (fun _ _ _ h => h) (by kernel_rfl) (by kernel_rfl) (fun _ _ => by kernel_rfl) trivial ?_
    simp only [Act.put, List.setIfInBounds_toArray, List.set_cons_succ, List.set_cons_zero]
    refine gsem 9 (some 197) (.pointer (some ⟨S.P, 2, none⟩)) rfl (by kernel_rfl) (by kernel_rfl) (by kernel_rfl) (fun _ _ _ h => h) (by kernel_rfl) (by kernel_rfl) (fun _ _ => by kernel_rfl) trivial ?_
    simp only [Act.put, List.setIfInBounds_toArray, List.set_cons_succ, List.set_cons_zero]
    refine gsem 10 (some 198) (.pointer (some ⟨S.P, 2, none⟩)) rfl (by kernel_rfl) (by kernel_rfl) (by kernel_rfl) (fun _ _ _ h => h) (by kernel_rfl) (by kernel_rfl) (fun _ _ => by kernel_rfl) trivial ?_
    simp only [Act.put, List.setIfInBounds_toArray, List.set_cons_succ, List.set_cons_zero]
    refine gsem 12 (some 200) (.pointer (some ⟨S.P, 0, none⟩)) rfl (by kernel_rfl) (by kernel_rfl) (by kernel_rfl) (fun _ _ _ h => h) (by kernel_rfl) (by kernel_rfl) (fun _ _ => by kernel_rfl) trivial ?_
    simp only [Act.put, List.setIfInBounds_toArray, List.set_cons_succ, List.set_cons_zero]
    refine gsem 13 (some 201) (.pointer (some ⟨S.P, 2, none⟩)) rfl (by kernel_rfl) (by kernel_rfl) (by kernel_rfl) (fun _ _ _ h => h) (by kernel_rfl) (by kernel_rfl) (fun _ _ => by kernel_rfl) trivial ?_
    simp only [Act.put, List.setIfInBounds_toArray, List.set_cons_succ, List.set_cons_zero]
    refine gsem 16 (some 203) (.pointer (some ⟨S.P, 0, none⟩)) rfl (by kernel_rfl) (by kernel_rfl) (by kernel_rfl) (fun _ _ _ h => h) (by kernel_rfl) (by kernel_rfl) (fun _ _ => by kernel_rfl) trivial ?_
    simp only [Act.put, List.setIfInBounds_toArray, List.set_cons_succ, List.set_cons_zero]
    refine gsem 17 (some 204) (.pointer (some ⟨S.P, 2, none⟩)) rfl (by kernel_rfl) (by kernel_rfl) (by kernel_rfl) (fun _ _ _ h => h) (by kernel_rfl) (by kernel_rfl) (fun _ _ => by kernel_rfl) trivial ?_
    simp only [Act.put, List.setIfInBounds_toArray, List.set_cons_succ, List.set_cons_zero]
    refine wpAnyH_ready (rs := [6, 11]) (by kernel_rfl) (by simp) (gval 6 (some 194) rfl (by kernel_rfl) (by kernel_rfl) (ex_load1 28 Tryz.isAgg28 rfl rfl hC rfl) trivial ?_ (gval 11 (some 199) rfl (by kernel_rfl) (by kernel_rfl) (ex_load1 28 Tryz.isAgg28 rfl rfl hC rfl) trivial ?_ AllReadyH.nil))
    · simp only [Act.put, List.setIfInBounds_toArray, List.set_cons_succ, List.set_cons_zero]
      refine wpAnyH_ready (rs := [11]) (by kernel_rfl) (by simp) (gval 11 (some 199) rfl (by kernel_rfl) (by kernel_rfl) (ex_load1 28 Tryz.isAgg28 rfl rfl hC rfl) trivial ?_ AllReadyH.nil)
      simp only [Act.put, List.setIfInBounds_toArray, List.set_cons_succ, List.set_cons_zero]
      refine gsem 14 (some 202) (.pointer (some ⟨S.P, 2, none⟩)) rfl (by kernel_rfl) (by kernel_rfl) (by kernel_rfl) (fun _ _ _ h => h) (by kernel_rfl) (by kernel_rfl) (fun _ _ => by kernel_rfl) trivial ?_
      simp only [Act.put, List.setIfInBounds_toArray, List.set_cons_succ, List.set_cons_zero]
      refine wpAnyH_ready (rs := [15]) (by kernel_rfl) (by simp) (gskp 15 none rfl (by kernel_rfl) (by kernel_rfl) (ex_store (t := 28) (vs := [.pointer (some ⟨S.R1.t, 0, none⟩)]) rfl rfl rfl rfl (by simp [Value.oneCell']) siz28 hC (by simp)) trivial ?_ AllReadyH.nil)
      have hF1 := Fr.setCells y2.drew S.P 2 [.pointer (some ⟨S.R1.t, 0, none⟩)]
      have hC1 : Holds _ S.P [.pointer (some ⟨S.T1.t, 0, none⟩), .pointer (some ⟨S.T0.t, 0, none⟩), .pointer (some ⟨S.R1.t, 0, none⟩), .pointer (some ⟨S.R1.t, 0, none⟩), .int .i64 S.left] := hC.put 2 [.pointer (some ⟨S.R1.t, 0, none⟩)] (by simp)
      generalize World.setCells _ _ _ _ = y1 at *
      clear hC
      have hC := hC1
      clear hC1
      simp only [Act.put, List.setIfInBounds_toArray, List.set_cons_succ, List.set_cons_zero]
      refine gsem 18 (some 205) (.pointer (some ⟨S.P, 3, none⟩)) rfl (by kernel_rfl) (by kernel_rfl) (by kernel_rfl) (fun _ _ _ h => h) (by kernel_rfl) (by kernel_rfl) (fun _ _ => by kernel_rfl) trivial ?_
      simp only [Act.put, List.setIfInBounds_toArray, List.set_cons_succ, List.set_cons_zero]
      refine wpAnyH_ready (rs := [19]) (by kernel_rfl) (by simp) (gskp 19 none rfl (by kernel_rfl) (by kernel_rfl) (ex_store (t := 28) (vs := [.pointer (some ⟨S.R0.t, 0, none⟩)]) rfl rfl rfl rfl (by simp [Value.oneCell']) siz28 hC (by simp)) trivial ?_ AllReadyH.nil)
      have hF2 := hF1.trans (Fr.setCells y1 S.P 3 [.pointer (some ⟨S.R0.t, 0, none⟩)]) (fun b hb => .inl hb)
      have hC2 : Holds _ S.P [.pointer (some ⟨S.T1.t, 0, none⟩), .pointer (some ⟨S.T0.t, 0, none⟩), .pointer (some ⟨S.R1.t, 0, none⟩), .pointer (some ⟨S.R0.t, 0, none⟩), .int .i64 S.left] := hC.put 3 [.pointer (some ⟨S.R0.t, 0, none⟩)] (by simp)
      generalize World.setCells y1 _ _ _ = y3 at *
      clear hC hF1
      simp only [Act.put, List.setIfInBounds_toArray, List.set_cons_succ, List.set_cons_zero]
      refine wpAnyH_done (by kernel_rfl) ?_ _
      try simp only [Act.put, List.setIfInBounds_toArray, List.set_cons_succ, List.set_cons_zero]
      have hB : Fr w1 y3 [S.P] := ((unhide HA).drew.trans hF2 (fun b hb => .inl hb))
      have FIN := hide ((unhide HS).swapped hB hC2)
      clear hB hF2 hC2
      go_wp2
      go_ret
      exact ⟨rfl, S.swap, (unhide FIN).1.mono (Nat.le_succ _), (Went.refl S (unhide HB1)).trans (unhide FIN).2⟩
    · simp only [Act.put, List.setIfInBounds_toArray, List.set_cons_succ, List.set_cons_zero]
      refine wpAnyH_ready (rs := [6]) (by kernel_rfl) (by simp) (gval 6 (some 194) rfl (by kernel_rfl) (by kernel_rfl) (ex_load1 28 Tryz.isAgg28 rfl rfl hC rfl) trivial ?_ AllReadyH.nil)
      simp only [Act.put, List.setIfInBounds_toArray, List.set_cons_succ, List.set_cons_zero]
      refine gsem 14 (some 202) (.pointer (some ⟨S.P, 2, none⟩)) rfl (by kernel_rfl) (by kernel_rfl) (by kernel_rfl) (fun _ _ _ h => h) (by kernel_rfl) (by kernel_rfl) (fun _ _ => by kernel_rfl) trivial ?_
      simp only [Act.put, List.setIfInBounds_toArray, List.set_cons_succ, List.set_cons_zero]
      refine wpAnyH_ready (rs := [15]) (by kernel_rfl) (by simp) (gskp 15 none rfl (by kernel_rfl) (by kernel_rfl) (ex_store (t := 28) (vs := [.pointer (some ⟨S.R1.t, 0, none⟩)]) rfl rfl rfl rfl (by simp [Value.oneCell']) siz28 hC (by simp)) trivial ?_ AllReadyH.nil)
      have hF1 := Fr.setCells y2.drew S.P 2 [.pointer (some ⟨S.R1.t, 0, none⟩)]
      have hC1 : Holds _ S.P [.pointer (some ⟨S.T1.t, 0, none⟩), .pointer (some ⟨S.T0.t, 0, none⟩), .pointer (some ⟨S.R1.t, 0, none⟩), .pointer (some ⟨S.R1.t, 0, none⟩), .int .i64 S.left] := hC.put 2 [.pointer (some ⟨S.R1.t, 0, none⟩)] (by simp)
      generalize World.setCells _ _ _ _ = y1 at *
      clear hC
      have hC := hC1
      clear hC1
      simp only [Act.put, List.setIfInBounds_toArray, List.set_cons_succ, List.set_cons_zero]
      refine gsem 18 (some 205) (.pointer (some ⟨S.P, 3, none⟩)) rfl (by kernel_rfl) (by kernel_rfl) (by kernel_rfl) (fun _ _ _ h => h) (by kernel_rfl) (by kernel_rfl) (fun _ _ => by kernel_rfl) trivial ?_
      simp only [Act.put, List.setIfInBounds_toArray, List.set_cons_succ, List.set_cons_zero]
      refine wpAnyH_ready (rs := [19]) (by kernel_rfl) (by simp) (gskp 19 none rfl (by kernel_rfl) (by kernel_rfl) (ex_store (t := 28) (vs := [.pointer (some ⟨S.R0.t, 0, none⟩)]) rfl rfl rfl rfl (by simp [Value.oneCell']) siz28 hC (by simp)) trivial ?_ AllReadyH.nil)
      have hF2 := hF1.trans (Fr.setCells y1 S.P 3 [.pointer (some ⟨S.R0.t, 0, none⟩)]) (fun b hb => .inl hb)
      have hC2 : Holds _ S.P [.pointer (some ⟨S.T1.t, 0, none⟩), .pointer (some ⟨S.T0.t, 0, none⟩), .pointer (some ⟨S.R1.t, 0, none⟩), .pointer (some ⟨S.R0.t, 0, none⟩), .int .i64 S.left] := hC.put 3 [.pointer (some ⟨S.R0.t, 0, none⟩)] (by simp)
      generalize World.setCells y1 _ _ _ = y3 at *
      clear hC hF1
      simp only [Act.put, List.setIfInBounds_toArray, List.set_cons_succ, List.set_cons_zero]
      refine wpAnyH_done (by kernel_rfl) ?_ _
      try simp only [Act.put, List.setIfInBounds_toArray, List.set_cons_succ, List.set_cons_zero]
      have hB : Fr w1 y3 [S.P] := ((unhide HA).drew.trans hF2 (fun b hb => .inl hb))
      have FIN := hide ((unhide HS).swapped hB hC2)
      clear hB hF2 hC2
      go_wp2
      go_ret
      exact ⟨rfl, S.swap, (unhide FIN).1.mono (Nat.le_succ _), (Went.refl S (unhide HB1)).trans (unhide FIN).2⟩
  · simp only [Act.put, List.setIfInBounds_toArray, List.set_cons_succ, List.set_cons_zero]
    refine wpAnyH_ready (rs := [6]) (by kernel_rfl) (by simp) (gval 6 (some 176) rfl (by kernel_rfl) (by kernel_rfl) (ex_load1 26 Tryz.isAgg26 rfl rfl hC rfl) trivial ?_ AllReadyH.nil)
    simp only [Act.put, List.setIfInBounds_toArray, List.set_cons_succ, List.set_cons_zero]
    refine gsem 14 (some 184) (.pointer (some ⟨S.P, 0, none⟩)) rfl (by kernel_rfl) (by kernel_rfl) (by kernel_rfl) (fun _ _ _ h => h) (by kernel_rfl) (by kernel_rfl) (fun _ _ => by kernel_rfl) trivial ?_
    simp only [Act.put, List.setIfInBounds_toArray, List.set_cons_succ, List.set_cons_zero]
    refine wpAnyH_ready (rs := [15]) (by kernel_rfl) (by simp) (gskp 15 none rfl (by kernel_rfl) (by kernel_rfl) (ex_store (t := 26) (vs := [.pointer (some ⟨S.T1.t, 0, none⟩)]) rfl rfl rfl rfl (by simp [Value.oneCell']) siz26 hC (by simp)) trivial ?_ AllReadyH.nil)
    have hF1 := Fr.setCells w1.drew S.P 0 [.pointer (some ⟨S.T1.t, 0, none⟩)]
    have hC1 : Holds _ S.P [.pointer (some ⟨S.T1.t, 0, none⟩), .pointer (some ⟨S.T1.t, 0, none⟩), .pointer (some ⟨S.R0.t, 0, none⟩), .pointer (some ⟨S.R1.t, 0, none⟩), .int .i64 S.left] := hC.put 0 [.pointer (some ⟨S.T1.t, 0, none⟩)] (by simp)
    generalize World.setCells _ _ _ _ = y1 at *
    clear hC
    have hC := hC1
    clear hC1
    simp only [Act.put, List.setIfInBounds_toArray, List.set_cons_succ, List.set_cons_zero]
    refine gsem 18 (some 187) (.pointer (some ⟨S.P, 1, none⟩)) rfl (by kernel_rfl) (by kernel_rfl) (by kernel_rfl) (fun _ _ _ h => h) (by kernel_rfl) (by kernel_rfl) (fun _ _ => by kernel_rfl) trivial ?_
    simp only [Act.put, List.setIfInBounds_toArray, List.set_cons_succ, List.set_cons_zero]
    refine wpAnyH_ready (rs := [19]) (by kernel_rfl) (by simp) (gskp 19 none rfl (by kernel_rfl) (by kernel_rfl) (ex_store (t := 26) (vs := [.pointer (some ⟨S.T0.t, 0, none⟩)]) rfl rfl rfl rfl (by simp [Value.oneCell']) siz26 hC (by simp)) trivial ?_ AllReadyH.nil)
    have hF2 := hF1.trans (Fr.setCells y1 S.P 1 [.pointer (some ⟨S.T0.t, 0, none⟩)]) (fun b hb => .inl hb)
    have hC2 : Holds _ S.P [.pointer (some ⟨S.T1.t, 0, none⟩), .pointer (some ⟨S.T0.t, 0, none⟩), .pointer (some ⟨S.R0.t, 0, none⟩), .pointer (some ⟨S.R1.t, 0, none⟩), .int .i64 S.left] := hC.put 1 [.pointer (some ⟨S.T0.t, 0, none⟩)] (by simp)
    generalize World.setCells y1 _ _ _ = y2 at *
    clear hC hF1
    simp only [Act.put, List.setIfInBounds_toArray, List.set_cons_succ, List.set_cons_zero]
    refine wpAnyH_done (by kernel_rfl) ?_ _
    try simp only [Act.put, List.setIfInBounds_toArray, List.set_cons_succ, List.set_cons_zero]
    have hA : Fr w1 y2 [S.P] := (Fr.refl w1 [S.P]).drew.trans hF2 (fun b hb => .inl hb)
    have HA := hide hA
    have HC2 := hide hC2
    clear hA hF2 hC2
    go_wp2
    refine wp_region_held_drew (P := Tryz.prog) (S := fun _ => True) (by kernel_rfl) trivial (fun hS0 => ?_)
    have hC : Holds y2.drew S.P [.pointer (some ⟨S.T1.t, 0, none⟩), .pointer (some ⟨S.T0.t, 0, none⟩), .pointer (some ⟨S.R0.t, 0, none⟩), .pointer (some ⟨S.R1.t, 0, none⟩), .int .i64 S.left] := (unhide HC2).block rfl
    refine gsem 0 (some 188) (.pointer (some ⟨S.P, 0, none⟩)) rfl (by kernel_rfl) (by kernel_rfl) (by kernel_rfl) (fun _ _ _ h => h) (by kernel_rfl) (by kernel_rfl) (fun _ _ => by kernel_rfl) trivial ?_
    simp only [Act.put, List.setIfInBounds_toArray, List.set_cons_succ, List.set_cons_zero]
    refine gsem 1 (some 189) (.pointer (some ⟨S.P, 0, none⟩)) rfl (by kernel_rfl) (by kernel_rfl) (by kernel_rfl) (fun _ _ _ h => h) (by kernel_rfl) (by kernel_rfl) (fun _ _ => by kernel_rfl) trivial ?_
    simp only [Act.put, List.setIfInBounds_toArray, List.set_cons_succ, List.set_cons_zero]
    refine gsem 2 (some 190) (.pointer (some ⟨S.P, 0, none⟩)) rfl (by kernel_rfl) (by kernel_rfl) (by kernel_rfl) (fun _ _ _ h => h) (by kernel_rfl) (by kernel_rfl) (fun _ _ => by kernel_rfl) trivial ?_
    simp only [Act.put, List.setIfInBounds_toArray, List.set_cons_succ, List.set_cons_zero]
    refine gsem 3 (some 191) (.pointer (some ⟨S.P, 0, none⟩)) rfl (by kernel_rfl) (by kernel_rfl) (by kernel_rfl) (fun _ _ _ h => h) (by kernel_rfl) (by kernel_rfl) (fun _ _ => by kernel_rfl) trivial ?_
    simp only [Act.put, List.setIfInBounds_toArray, List.set_cons_succ, List.set_cons_zero]
    refine gsem 4 (some 192) (.pointer (some ⟨S.P, 2, none⟩)) rfl (by kernel_rfl) (by kernel_rfl) (by kernel_rfl) (fun _ _ _ h => h) (by kernel_rfl) (by kernel_rfl) (fun _ _ => by kernel_rfl) trivial ?_
    simp only [Act.put, List.setIfInBounds_toArray, List.set_cons_succ, List.set_cons_zero]
    refine gsem 5 (some 193) (.pointer (some ⟨S.P, 3, none⟩)) rfl (by kernel_rfl) (by kernel_rfl) (by kernel_rfl) (fun _ _ _ h => h) (by kernel_rfl) (by kernel_rfl) (fun _ _ => by kernel_rfl) trivial ?_
    simp only [Act.put, List.setIfInBounds_toArray, List.set_cons_succ, List.set_cons_zero]
    refine gsem 7 (some 195) (.pointer (some ⟨S.P, 0, none⟩)) rfl (by kernel_rfl) (by kernel_rfl) (by kernel_rfl) (fun _ _ _ h => h) (by kernel_rfl) (by kernel_rfl) (fun _ _ => by kernel_rfl) trivial ?_
    simp only [Act.put, List.setIfInBounds_toArray, List.set_cons_succ, List.set_cons_zero]
    refine gsem 8 (some 196) (.pointer (some ⟨S.P, 0, none⟩)) rfl (by kernel_rfl) (by kernel_rfl) (by kernel_rfl) (fun _ _ _ h => h) (by kernel_rfl) (by kernel_rfl) (fun _ _ => by kernel_rfl) trivial ?_
    simp only [Act.put, List.setIfInBounds_toArray, List.set_cons_succ, List.set_cons_zero]
    refine gsem 9 (some 197) (.pointer (some ⟨S.P, 2, none⟩)) rfl (by kernel_rfl) (by kernel_rfl) (by kernel_rfl) (fun _ _ _ h => h) (by kernel_rfl) (by kernel_rfl) (fun _ _ => by kernel_rfl) trivial ?_
    simp only [Act.put, List.setIfInBounds_toArray, List.set_cons_succ, List.set_cons_zero]
    refine gsem 10 (some 198) (.pointer (some ⟨S.P, 2, none⟩)) rfl (by kernel_rfl) (by kernel_rfl) (by kernel_rfl) (fun _ _ _ h => h) (by kernel_rfl) (by kernel_rfl) (fun _ _ => by kernel_rfl) trivial ?_
    simp only [Act.put, List.setIfInBounds_toArray, List.set_cons_succ, List.set_cons_zero]
    refine gsem 12 (some 200) (.pointer (some ⟨S.P, 0, none⟩)) rfl (by kernel_rfl) (by kernel_rfl) (by kernel_rfl) (fun _ _ _ h => h) (by kernel_rfl) (by kernel_rfl) (fun _ _ => by kernel_rfl) trivial ?_
    simp only [Act.put, List.setIfInBounds_toArray, List.set_cons_succ, List.set_cons_zero]
    refine gsem 13 (some 201) (.pointer (some ⟨S.P, 2, none⟩)) rfl (by kernel_rfl) (by kernel_rfl) (by kernel_rfl) (fun _ _ _ h => h) (by kernel_rfl) (by kernel_rfl) (fun _ _ => by kernel_rfl) trivial ?_
    simp only [Act.put, List.setIfInBounds_toArray, List.set_cons_succ, List.set_cons_zero]
    refine gsem 16 (some 203) (.pointer (some ⟨S.P, 0, none⟩)) rfl (by kernel_rfl) (by kernel_rfl) (by kernel_rfl) (fun _ _ _ h => h) (by kernel_rfl) (by kernel_rfl) (fun _ _ => by kernel_rfl) trivial ?_
    simp only [Act.put, List.setIfInBounds_toArray, List.set_cons_succ, List.set_cons_zero]
    refine gsem 17 (some 204) (.pointer (some ⟨S.P, 2, none⟩)) rfl (by kernel_rfl) (by kernel_rfl) (by kernel_rfl) (fun _ _ _ h => h) (by kernel_rfl) (by kernel_rfl) (fun _ _ => by kernel_rfl) trivial ?_
    simp only [Act.put, List.setIfInBounds_toArray, List.set_cons_succ, List.set_cons_zero]
    refine wpAnyH_ready (rs := [6, 11]) (by kernel_rfl) (by simp) (gval 6 (some 194) rfl (by kernel_rfl) (by kernel_rfl) (ex_load1 28 Tryz.isAgg28 rfl rfl hC rfl) trivial ?_ (gval 11 (some 199) rfl (by kernel_rfl) (by kernel_rfl) (ex_load1 28 Tryz.isAgg28 rfl rfl hC rfl) trivial ?_ AllReadyH.nil))
    · simp only [Act.put, List.setIfInBounds_toArray, List.set_cons_succ, List.set_cons_zero]
      refine wpAnyH_ready (rs := [11]) (by kernel_rfl) (by simp) (gval 11 (some 199) rfl (by kernel_rfl) (by kernel_rfl) (ex_load1 28 Tryz.isAgg28 rfl rfl hC rfl) trivial ?_ AllReadyH.nil)
      simp only [Act.put, List.setIfInBounds_toArray, List.set_cons_succ, List.set_cons_zero]
      refine gsem 14 (some 202) (.pointer (some ⟨S.P, 2, none⟩)) rfl (by kernel_rfl) (by kernel_rfl) (by kernel_rfl) (fun _ _ _ h => h) (by kernel_rfl) (by kernel_rfl) (fun _ _ => by kernel_rfl) trivial ?_
      simp only [Act.put, List.setIfInBounds_toArray, List.set_cons_succ, List.set_cons_zero]
      refine wpAnyH_ready (rs := [15]) (by kernel_rfl) (by simp) (gskp 15 none rfl (by kernel_rfl) (by kernel_rfl) (ex_store (t := 28) (vs := [.pointer (some ⟨S.R1.t, 0, none⟩)]) rfl rfl rfl rfl (by simp [Value.oneCell']) siz28 hC (by simp)) trivial ?_ AllReadyH.nil)
      have hF1 := Fr.setCells y2.drew S.P 2 [.pointer (some ⟨S.R1.t, 0, none⟩)]
      have hC1 : Holds _ S.P [.pointer (some ⟨S.T1.t, 0, none⟩), .pointer (some ⟨S.T0.t, 0, none⟩), .pointer (some ⟨S.R1.t, 0, none⟩), .pointer (some ⟨S.R1.t, 0, none⟩), .int .i64 S.left] := hC.put 2 [.pointer (some ⟨S.R1.t, 0, none⟩)] (by simp)
      generalize World.setCells _ _ _ _ = y1 at *
      clear hC
      have hC := hC1
      clear hC1
      simp only [Act.put, List.setIfInBounds_toArray, List.set_cons_succ, List.set_cons_zero]
      refine gsem 18 (some 205) (.pointer (some ⟨S.P, 3, none⟩)) rfl (by kernel_rfl) (by kernel_rfl) (by kernel_rfl) (fun _ _ _ h => h) (by kernel_rfl) (by kernel_rfl) (fun _ _ => by kernel_rfl) trivial ?_
      simp only [Act.put, List.setIfInBounds_toArray, List.set_cons_succ, List.set_cons_zero]
      refine wpAnyH_ready (rs := [19]) (by kernel_rfl) (by simp) (gskp 19 none rfl (by kernel_rfl) (by kernel_rfl) (ex_store (t := 28) (vs := [.pointer (some ⟨S.R0.t, 0, none⟩)]) rfl rfl rfl rfl (by simp [Value.oneCell']) siz28 hC (by simp)) trivial ?_ AllReadyH.nil)
      have hF2 := hF1.trans (Fr.setCells y1 S.P 3 [.pointer (some ⟨S.R0.t, 0, none⟩)]) (fun b hb => .inl hb)
      have hC2 : Holds _ S.P [.pointer (some ⟨S.T1.t, 0, none⟩), .pointer (some ⟨S.T0.t, 0, none⟩), .pointer (some ⟨S.R1.t, 0, none⟩), .pointer (some ⟨S.R0.t, 0, none⟩), .int .i64 S.left] := hC.put 3 [.pointer (some ⟨S.R0.t, 0, none⟩)] (by simp)
      generalize World.setCells y1 _ _ _ = y3 at *
      clear hC hF1
      simp only [Act.put, List.setIfInBounds_toArray, List.set_cons_succ, List.set_cons_zero]
      refine wpAnyH_done (by kernel_rfl) ?_ _
      try simp only [Act.put, List.setIfInBounds_toArray, List.set_cons_succ, List.set_cons_zero]
      have hB : Fr w1 y3 [S.P] := ((unhide HA).drew.trans hF2 (fun b hb => .inl hb))
      have FIN := hide ((unhide HS).swapped hB hC2)
      clear hB hF2 hC2
      go_wp2
      go_ret
      exact ⟨rfl, S.swap, (unhide FIN).1.mono (Nat.le_succ _), (Went.refl S (unhide HB1)).trans (unhide FIN).2⟩
    · simp only [Act.put, List.setIfInBounds_toArray, List.set_cons_succ, List.set_cons_zero]
      refine wpAnyH_ready (rs := [6]) (by kernel_rfl) (by simp) (gval 6 (some 194) rfl (by kernel_rfl) (by kernel_rfl) (ex_load1 28 Tryz.isAgg28 rfl rfl hC rfl) trivial ?_ AllReadyH.nil)
      simp only [Act.put, List.setIfInBounds_toArray, List.set_cons_succ, List.set_cons_zero]
      refine gsem 14 (some 202) (.pointer (some ⟨S.P, 2, none⟩)) rfl (by kernel_rfl) (by kernel_rfl) (by kernel_rfl) (fun _ _ _ h => h) (by kernel_rfl) (by kernel_rfl) (fun _ _ => by kernel_rfl) trivial ?_
      simp only [Act.put, List.setIfInBounds_toArray, List.set_cons_succ, List.set_cons_zero]
      refine wpAnyH_ready (rs := [15]) (by kernel_rfl) (by simp) (gskp 15 none rfl (by kernel_rfl) (by kernel_rfl) (ex_store (t := 28) (vs := [.pointer (some ⟨S.R1.t, 0, none⟩)]) rfl rfl rfl rfl (by simp [Value.oneCell']) siz28 hC (by simp)) trivial ?_ AllReadyH.nil)
      have hF1 := Fr.setCells y2.drew S.P 2 [.pointer (some ⟨S.R1.t, 0, none⟩)]
      have hC1 : Holds _ S.P [.pointer (some ⟨S.T1.t, 0, none⟩), .pointer (some ⟨S.T0.t, 0, none⟩), .pointer (some ⟨S.R1.t, 0, none⟩), .pointer (some ⟨S.R1.t, 0, none⟩), .int .i64 S.left] := hC.put 2 [.pointer (some ⟨S.R1.t, 0, none⟩)] (by simp)
      generalize World.setCells _ _ _ _ = y1 at *
      clear hC
      have hC := hC1
      clear hC1
      simp only [Act.put, List.setIfInBounds_toArray, List.set_cons_succ, List.set_cons_zero]
      refine gsem 18 (some 205) (.pointer (some ⟨S.P, 3, none⟩)) rfl (by kernel_rfl) (by kernel_rfl) (by kernel_rfl) (fun _ _ _ h => h) (by kernel_rfl) (by kernel_rfl) (fun _ _ => by kernel_rfl) trivial ?_
      simp only [Act.put, List.setIfInBounds_toArray, List.set_cons_succ, List.set_cons_zero]
      refine wpAnyH_ready (rs := [19]) (by kernel_rfl) (by simp) (gskp 19 none rfl (by kernel_rfl) (by kernel_rfl) (ex_store (t := 28) (vs := [.pointer (some ⟨S.R0.t, 0, none⟩)]) rfl rfl rfl rfl (by simp [Value.oneCell']) siz28 hC (by simp)) trivial ?_ AllReadyH.nil)
      have hF2 := hF1.trans (Fr.setCells y1 S.P 3 [.pointer (some ⟨S.R0.t, 0, none⟩)]) (fun b hb => .inl hb)
      have hC2 : Holds _ S.P [.pointer (some ⟨S.T1.t, 0, none⟩), .pointer (some ⟨S.T0.t, 0, none⟩), .pointer (some ⟨S.R1.t, 0, none⟩), .pointer (some ⟨S.R0.t, 0, none⟩), .int .i64 S.left] := hC.put 3 [.pointer (some ⟨S.R0.t, 0, none⟩)] (by simp)
      generalize World.setCells y1 _ _ _ = y3 at *
      clear hC hF1
      simp only [Act.put, List.setIfInBounds_toArray, List.set_cons_succ, List.set_cons_zero]
      refine wpAnyH_done (by kernel_rfl) ?_ _
      try simp only [Act.put, List.setIfInBounds_toArray, List.set_cons_succ, List.set_cons_zero]
      have hB : Fr w1 y3 [S.P] := ((unhide HA).drew.trans hF2 (fun b hb => .inl hb))
      have FIN := hide ((unhide HS).swapped hB hC2)
      clear hB hF2 hC2
      go_wp2
      go_ret
      exact ⟨rfl, S.swap, (unhide FIN).1.mono (Nat.le_succ _), (Went.refl S (unhide HB1)).trans (unhide FIN).2⟩
end Go.Proofs.YtpbdidnphkkenaaGreatDoor
