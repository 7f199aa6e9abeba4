import Derived.Test.YtpbdidnphkkenaaGreatDoorRl
set_option linter.all false
namespace Go.Proofs.YtpbdidnphkkenaaGreatDoor
set_option maxHeartbeats 1000000
section
open Go Go.Proofs Go.Maps Go.RowKit
/-- A table of which nothing is known but that it can be added to. -/
structure Loose (W : World) (t m : Nat) (rv : Value) (n : Nat) (ps : List Nat) : Prop where
  tab : Holds W t [.map (some m), rv, .int .u64 n]
  map : ∃ sz F, MapIs W m n sz F
  own : OwnP W rv ps
  len : ps.length ≤ n
  tm : t ≠ m
  ap : ∀ g, rv.ownBlock = some g → g ≠ t ∧ g ≠ m
def lb (t m : Nat) (rv : Value) : List Nat := t :: m :: rv.ownBlock.toList
theorem Loose.lt {W : World} {t m : Nat} {rv : Value} {n : Nat} {ps : List Nat} (h : Loose W t m rv n ps) : ∀ b ∈ lb t m rv, b < W.heap.size := by
  intro b hb
  simp only [lb, List.mem_cons] at hb
  rcases hb with rfl | rfl | hb
  · exact h.tab.lt (by simp)
  · obtain ⟨sz, F, hm⟩ := h.map
    exact hm.lt
  · exact (World.ownsRow.lt h.own b (by simpa using hb)).2
theorem Loose.block {W W' : World} {t m : Nat} {rv : Value} {n : Nat} {ps : List Nat} (h : Loose W t m rv n ps) (he : ∀ b ∈ lb t m rv, W'.heap[b]? = W.heap[b]?) : Loose W' t m rv n ps := by
  obtain ⟨h1, ⟨sz, F, h2⟩, h3, h4, h5, h6⟩ := h
  exact ⟨h1.block (he _ (by simp [lb])), ⟨sz, F, h2.block (he _ (by simp [lb]))⟩, h3.block (fun g hg => he g (by simp [lb, hg])), h4, h5, h6⟩
/-- The map and the rows of such a table. -/
def LM (m : Nat) (n : Nat) (v : Value) (ps : List Nat) (sz : Nat) (F : KK → Option Nat) (W : World) : Prop := MapIs W m n sz F ∧ OwnP W v ps
theorem LM.block {m n sz : Nat} {v : Value} {ps : List Nat} {F : KK → Option Nat} {W W' : World} (h : LM m n v ps sz F W) (he : ∀ b, b = m ∨ v.ownBlock = some b → W'.heap[b]? = W.heap[b]?) : LM m n v ps sz F W' :=
  ⟨h.1.block (he _ (.inl rfl)), h.2.block (fun g hg => he g (.inr hg))⟩
theorem LM.lt {m n sz : Nat} {v : Value} {ps : List Nat} {F : KK → Option Nat} {W : World} (h : LM m n v ps sz F W) : ∀ b, b = m ∨ v.ownBlock = some b → b < W.heap.size := by
  intro b hb
  rcases hb with rfl | hb
  · exact h.1.lt
  · exact (World.ownsRow.lt h.2 b hb).2
theorem LM.on {m n sz : Nat} {v : Value} {ps : List Nat} {F : KK → Option Nat} {W W' : World} (h : LM m n v ps sz F W) (hb : Below W.heap.size W W') : LM m n v ps sz F W' := h.block (fun b hb' => hb.block b (h.lt b hb'))
theorem LM.fr {m n sz : Nat} {v : Value} {ps : List Nat} {F : KK → Option Nat} {W W' : World} {E : List Nat} (h : LM m n v ps sz F W) (hf : Fr W W' E) (hE : ∀ b, b = m ∨ v.ownBlock = some b → b ∉ E) : LM m n v ps sz F W' := h.block (fun b hb => hf.block b (h.lt b hb) (hE b hb))
theorem fourw {t n R B : Nat} {c1 c2 c3 c4 : List Value} {q : Nat × List Value} (hq : q ∈ [(t, c1), (n, c2), (R, c3), (B, c4)]) (hR : n ≤ R) (hB : n ≤ B) : q.1 = t ∨ n ≤ q.1 := by
  simp only [List.mem_cons, List.not_mem_nil, or_false] at hq
  rcases hq with rfl | rfl | rfl | rfl
  · exact .inl rfl
  · exact .inr (Nat.le_refl _)
  · exact .inr hR
  · exact .inr hB
theorem not_rvw {t m n b : Nat} {rv : Value} (hlt : ∀ b ∈ lb t m rv, b < n) (hap : ∀ g, rv.ownBlock = some g → g ≠ t ∧ g ≠ m) (hb : b = t ∨ n ≤ b) (hm : b ∈ rv.ownBlock.toList) : False := by
  have h1 : rv.ownBlock = some b := by simpa using hm
  rcases hb with hb | hb
  · exact (hap b h1).1 hb
  · have := hlt b (by simp only [lb, List.mem_cons]; exact .inr (.inr hm))
    omega
theorem not_mw {t m n b : Nat} {rv : Value} (hlt : ∀ b ∈ lb t m rv, b < n) (htm : t ≠ m) (hb : b = t ∨ n ≤ b) (hm : b ∈ [m]) : False := by
  obtain e : b = m := by simpa using hm
  rcases hb with hb | hb
  · exact htm (hb.symm.trans e)
  · have := hlt m (by simp [lb])
    omega
theorem freshw {t m n R : Nat} {rv v : Value} {X : World} (hlt : ∀ b ∈ lb t m rv, b < n) (hap : ∀ g, rv.ownBlock = some g → g ≠ t ∧ g ≠ m) (hf : Fresh X rv v) (hR : R < X.heap.size) (hs : n ≤ X.heap.size) (hR2 : n ≤ R) : ∀ g, v.ownBlock = some g → (rv.ownBlock = some g ∨ n ≤ g) ∧ g ≠ t := by
  intro g hg
  have ht := hlt t (by simp [lb])
  rcases hf with h | h
  · rw [hg] at h
    exact ⟨.inl h.symm, (hap g h.symm).1⟩
  · rw [hg] at h
    have := Option.some.inj h
    exact ⟨.inr (by omega), by omega⟩
set_option maxRecDepth 100000 in
theorem add34w (t m : Nat) (rv : Value) (n : Nat) (ps : List Nat) (k : KK) (d : DD) (w : World) (hT : Loose w t m rv n ps) (hk : OkK k) (hn : n < 4000000) : Calls Tryz.prog 34 #[.pointer (some ⟨t, 0, none⟩), .agg (k.cs ++ d.cs).toArray] w fun e w' => e = .returned (.tuple #[]) ∧ ∃ rv' R, Loose w' t m rv' (n + 1) (ps ++ [R]) ∧ Fr w w' (lb t m rv) ∧ (∀ g, rv'.ownBlock = some g → rv.ownBlock = some g ∨ w.heap.size ≤ g) := by
  obtain ⟨sz, F, hM⟩ := hT.map
  have bl0 := (Below.refl w.heap.size w).alloc (Nat.le_refl _) (Obj.cells (k.cs ++ d.cs).toArray 58)
  have LL := hide (((Hq.nil w (lb t m rv)).add hT.tab (Nat.succ_pos _) (fun q hq => by cases hq)).new (k.cs ++ d.cs) 58 (Nat.succ_pos _))
  have MM : Hid (LM m n rv ps sz F (w.alloc (Obj.cells (k.cs ++ d.cs).toArray 58))) := hide (LM.on ⟨hM, hT.own⟩ bl0)
  have HLT := hide hT.lt
  have HAP := hide hT.ap
  have HTM := hide hT.tm
  have hlen := hT.len
  have hl2 : Hid (n < 4000000) := hide hn
  have hl3 : Hid (ps.length + 1 ≤ 4000000 ∧ ps.length ≤ n) := hide ⟨by omega, hlen⟩
  have hk2 := hide hk
  have htE : Hid (∀ b ∈ [t], b ∈ lb t m rv ∨ w.heap.size ≤ b) := hide (fun b hb => .inl (by obtain rfl : b = t := (by simpa using hb); simp [lb]))
  clear hT hn hk hM bl0 hlen
  go_enter Tryz.func34, Tryz.ntmps34
  go_wp2_with (first | go_skip | ((with_reducible show wpList _ _ _ _ _ _); first | ((refine rd (by rfl) (ex_load1 71 Tryz.isAgg71 rfl rfl ((unhide LL).get 0 rfl) rfl) ?_); simp only [Act.put, nzA, nzB, nzC]) | ((refine rd (by rfl) (ex_addu rfl rfl rfl (unhide hl2)) ?_); simp only [Act.put, nzA, nzB, nzC]) | ((refine st (vs := [.int .u64 ((n : Int) + 1)]) 0 71 (by rfl) rfl rfl rfl rfl (by simp [Value.oneCell']) siz71 (unhide LL) rfl (by simp [cput]) (Or.inl (List.mem_cons_self ..)) ?_); intro w3 L3 hf3 hs3; replace LL := hide L3; replace MM := hide ((unhide MM).fr hf3 (fun b hb hm => by obtain e : b = t := (by simpa using hm); rcases hb with hb | hb; exact (unhide HTM) (e.symm.trans hb); exact ((unhide HAP) b hb).1 e)); clear L3 hf3 hs3; simp only [Act.put, nzA, nzB, nzC])))
  obtain ⟨R, hRe⟩ : ∃ R, R = w3.drew.heap.size := ⟨_, rfl⟩
  refine wp_region_held_drew (P := Tryz.prog) (S := fun X => Hq w X (lb t m rv) [(t, [.map (some m), rv, .int .u64 ((n : Int) + 1)]), (w.heap.size, (k.cs ++ d.cs))]) (by kernel_rfl) (unhide LL).drew (fun hS0 => ?_)
  refine gsem 0 (some 12) (.agg (k.cs ++ d.cs).toArray) rfl (by kernel_rfl) (by kernel_rfl) (by kernel_rfl) (fun _ _ _ h => h) (by kernel_rfl) (by kernel_rfl) (fun X hX => ex_loadN (vs := (k.cs ++ d.cs)) 58 20 row58 siz58 rfl rfl (hX.get 1 rfl) rfl rfl) hS0 ?_
  simp only [Act.put, nzA, nzB, nzC]
  refine gsem 1 (some 13) (.pointer (some ⟨t, 0, none⟩)) rfl (by kernel_rfl) (by kernel_rfl) (by kernel_rfl) (fun _ _ _ h => h) (by kernel_rfl) (by kernel_rfl) (fun _ _ => by kernel_rfl) hS0 ?_
  simp only [Act.put, nzA, nzB, nzC]
  refine gsem 2 (some 14) (.pointer (some ⟨t, 0, none⟩)) rfl (by kernel_rfl) (by kernel_rfl) (by kernel_rfl) (fun _ _ _ h => h) (by kernel_rfl) (by kernel_rfl) (fun _ _ => by kernel_rfl) hS0 ?_
  simp only [Act.put, nzA, nzB, nzC]
  refine gsem 3 (some 15) (.pointer (some ⟨t, 2, none⟩)) rfl (by kernel_rfl) (by kernel_rfl) (by kernel_rfl) (fun _ _ _ h => h) (by kernel_rfl) (by kernel_rfl) (fun _ _ => by kernel_rfl) hS0 ?_
  simp only [Act.put, nzA, nzB, nzC]
  refine gsem 4 (some 16) (.int .u64 ((n : Int) + 1)) rfl (by kernel_rfl) (by kernel_rfl) (by kernel_rfl) (fun _ _ _ h => h) (by kernel_rfl) (by kernel_rfl) (fun X hX => ex_load1 71 Tryz.isAgg71 rfl rfl (hX.get 0 rfl) rfl) hS0 ?_
  simp only [Act.put, nzA, nzB, nzC]
  refine gsem 5 (some 17) (.agg (RR.mk R k d (n + 1) false).cs.toArray) rfl (by kernel_rfl) (by kernel_rfl) (by kernel_rfl) (fun _ _ _ h => h) (by kernel_rfl) (by kernel_rfl) (fun _ _ => by kernel_rfl) hS0 ?_
  simp only [Act.put, nzA, nzB, nzC]
  have bl := (Below.refl w3.drew.heap.size w3.drew).alloc (Nat.le_refl _) (Obj.cells (RR.mk R k d (n + 1) false).cs.toArray 77)
  have L2 := hS0.new (RR.mk R k d (n + 1) false).cs 77 (Nat.succ_pos _)
  refine wpAnyH_ready (rs := [6]) (by kernel_rfl) (by simp) (gval 6 (some 18) rfl (by kernel_rfl) (by kernel_rfl) (ex_box 77 (RR.mk R k d (n + 1) false).cs rfl rfl rfl) (hS0.on bl) ?_ AllReadyH.nil)
  have hR : Hid (w.heap.size ≤ R) := hide (Nat.le_trans hS0.fr.size (Nat.le_of_eq hRe.symm))
  replace hS0 := hS0.on bl
  replace MM := hide (((unhide MM).block (W' := w3.drew) (fun _ _ => rfl)).on bl)
  simp only [Act.put, nzA, nzB, nzC]
  rw [← hRe] at L2 ⊢
  clear bl
  generalize w3.drew.alloc (Obj.cells (RR.mk R k d (n + 1) false).cs.toArray 77) = w4 at *
  clear hRe
  refine gsem 7 (some 4) (.pointer (some ⟨R, 0, none⟩)) rfl (by kernel_rfl) (by kernel_rfl) (by kernel_rfl) (fun _ _ _ h => h) (by kernel_rfl) (by kernel_rfl) (fun _ _ => by kernel_rfl) hS0 ?_
  simp only [Act.put, nzA, nzB, nzC]
  refine wpAnyH_done (by kernel_rfl) ?_ _
  try simp only [Act.put, nzA, nzB, nzC]
  replace LL := hide L2
  clear hS0 L2
  go_wp2_with (first | go_skip | ((with_reducible show wpList _ _ _ _ _ _); first | ((refine rd (by rfl) (ex_load1 70 Tryz.isAgg70 rfl rfl ((unhide LL).get 0 rfl) rfl) ?_); simp only [Act.put, nzA, nzB, nzC]) | ((refine build_any (t := 70) (e := 74) (size := 1) (bytes := 8) (z := .pointer none) (cs := [.pointer (some ⟨R, 0, none⟩)]) (by rfl) rfl rfl Tryz.underlying70 info74 (by decide) rfl rfl (by decide) (unhide LL) ?_); intro w5 B5 hB5 L5 hb5; have hB5 := hide (Nat.le_trans (unhide LL).fr.size (Nat.le_of_eq hB5.symm)); replace LL := hide L5; replace MM := hide ((unhide MM).on hb5); clear L5 hb5; simp only [Act.put, nzA, nzB, nzC]) | ((refine append_any (v := rv) rfl rfl rfl rfl Tryz.underlying70 info74 rfl (by decide) (unhide MM).2 ((unhide LL).get 3 rfl) rfl (by simp [Value.oneCell']) (unhide hl3).1 (by decide) (Nat.zero_le _) ?_); intro A6 c6 w6 ho6 hg6 hf6; have V6 := hide (freshw (unhide HLT) (unhide HAP) hf6 ((unhide LL).lt (R, (RR.mk R k d (n + 1) false).cs) (by simp)) (unhide LL).fr.size (unhide hR)); have HO6 : Hid (w6.ownsRow 0 74 1 (.slice A6 (ps.length + 1) c6) (ps.length + 1) (ptrs (ps ++ [R]))) := hide (by have h := ho6; unfold ptrs at h ⊢; rw [List.map_append]; exact h); have HM6 : Hid (MapIs w6 m n sz F) := hide ((unhide MM).1.block (hg6.block m (unhide MM).1.lt (fun e => ((unhide HAP) m e.symm).2 rfl))); replace LL := hide ((unhide LL).step (Fr.grown hg6) (fun b hb => Or.inl (by simp only [lb, List.mem_cons]; exact Or.inr (Or.inr hb))) (fun q hq hm => not_rvw (unhide HLT) (unhide HAP) (fourw hq (unhide hR) (unhide hB5)) hm)); clear MM ho6 hg6 hf6; simp only [Act.put, nzA, nzB, nzC]) | ((refine st (vs := [.slice A6 _ c6]) 0 70 (by rfl) rfl rfl rfl rfl (by simp [Value.oneCell']) siz70 (unhide LL) rfl (by simp [cput]) (Or.inl (List.mem_cons_self ..)) ?_); intro w7 L7 hf7 hs7; replace LL := hide L7; replace HO6 := hide (own_block (w' := w7) (unhide HO6) (fun g hg => hf7.block g (World.ownsRow.lt (unhide HO6) g hg).2 (fun hm => ((unhide V6) g hg).2 (by simpa using hm)))); replace HM6 := hide ((unhide HM6).block (hf7.block m (unhide HM6).lt (fun hm => (unhide HTM) (by simpa using (by simpa using hm : m = t).symm)))); clear L7 hf7 hs7; simp only [Act.put, nzA, nzB, nzC])))
  refine wp_region_held_drew (P := Tryz.prog) (S := fun X => Hq w X (lb t m rv) [(t, [.map (some m), .slice A6 (ps.length + 1) c6, .int .u64 ((n : Int) + 1)]), (w.heap.size, (k.cs ++ d.cs)), (R, (RR.mk R k d (n + 1) false).cs), (B5, [.pointer (some ⟨R, 0, none⟩)])]) (by kernel_rfl) (unhide LL).drew (fun hS0 => ?_)
  refine gsem 0 (some 29) (.pointer (some ⟨t, 0, none⟩)) rfl (by kernel_rfl) (by kernel_rfl) (by kernel_rfl) (fun _ _ _ h => h) (by kernel_rfl) (by kernel_rfl) (fun _ _ => by kernel_rfl) hS0 ?_
  simp only [Act.put, nzA, nzB, nzC]
  refine gsem 1 (some 30) (.pointer (some ⟨t, 0, none⟩)) rfl (by kernel_rfl) (by kernel_rfl) (by kernel_rfl) (fun _ _ _ h => h) (by kernel_rfl) (by kernel_rfl) (fun _ _ => by kernel_rfl) hS0 ?_
  simp only [Act.put, nzA, nzB, nzC]
  refine gsem 2 (some 31) (.pointer (some ⟨t, 0, none⟩)) rfl (by kernel_rfl) (by kernel_rfl) (by kernel_rfl) (fun _ _ _ h => h) (by kernel_rfl) (by kernel_rfl) (fun _ _ => by kernel_rfl) hS0 ?_
  simp only [Act.put, nzA, nzB, nzC]
  refine gsem 3 (some 32) (.map (some m)) rfl (by kernel_rfl) (by kernel_rfl) (by kernel_rfl) (fun _ _ _ h => h) (by kernel_rfl) (by kernel_rfl) (fun X hX => ex_load1 69 Tryz.isAgg69 rfl rfl (hX.get 0 rfl) rfl) hS0 ?_
  simp only [Act.put, nzA, nzB, nzC]
  refine gsem 4 (some 33) (.pointer (some ⟨w.heap.size, 0, none⟩)) rfl (by kernel_rfl) (by kernel_rfl) (by kernel_rfl) (fun _ _ _ h => h) (by kernel_rfl) (by kernel_rfl) (fun _ _ => by kernel_rfl) hS0 ?_
  simp only [Act.put, nzA, nzB, nzC]
  refine gsem 5 (some 34) (k.agg) rfl (by kernel_rfl) (by kernel_rfl) (by kernel_rfl) (fun _ _ _ h => h) (by kernel_rfl) (by kernel_rfl) (fun X hX => ex_loadN (vs := k.cs) 33 2 row33x siz33 rfl rfl (hX.get 1 rfl) rfl rfl) hS0 ?_
  simp only [Act.put, nzA, nzB, nzC]
  refine gsem 6 (some 35) (.pointer (some ⟨R, 0, none⟩)) rfl (by kernel_rfl) (by kernel_rfl) (by kernel_rfl) (fun _ _ _ h => h) (by kernel_rfl) (by kernel_rfl) (fun _ _ => by kernel_rfl) hS0 ?_
  simp only [Act.put, nzA, nzB, nzC]
  refine wpAnyH_ready (rs := [7]) (by kernel_rfl) (by simp) (gupd (r := R) 7 rfl (by kernel_rfl) (by kernel_rfl) rfl rfl rfl rfl (unhide HM6).drew (unhide hk2) (by have h2 := unhide hl2; unfold maxLen; omega) (fun X hX => (hS0.step hX (fun b hb => Or.inl (by obtain rfl : b = m := (by simpa using hb); simp [lb])) (fun q hq hm => not_mw (unhide HLT) (unhide HTM) (fourw hq (unhide hR) (unhide hB5)) hm))) ?_ AllReadyH.nil)
  intro X hM hX
  replace hS0 := (hS0.step hX (fun b hb => Or.inl (by obtain rfl : b = m := (by simpa using hb); simp [lb])) (fun q hq hm => not_mw (unhide HLT) (unhide HTM) (fourw hq (unhide hR) (unhide hB5)) hm))
  have HM7 := hide hM
  have HO7 : Hid (X.ownsRow 0 74 1 (.slice A6 (ps.length + 1) c6) (ps.length + 1) (ptrs (ps ++ [R]))) := hide (own_block (w' := X) (own_block (w' := w7.drew) (unhide HO6) (fun _ _ => rfl)) (fun g hg => hX.block g (World.ownsRow.lt (unhide HO6) g hg).2 (fun hm => by obtain e : g = m := (by simpa using hm); rcases ((unhide V6) g hg).1 with h7 | h7; exact ((unhide HAP) g h7).2 e; have := (unhide HLT) m (by simp [lb]); omega)))
  clear hM hX HM6 HO6
  simp only [Act.put, nzA, nzB, nzC]
  refine wpAnyH_done (by kernel_rfl) ?_ _
  try simp only [Act.put, nzA, nzB, nzC]
  have LS := hide hS0
  clear hS0 LL
  go_wp2
  go_end0
  refine ⟨rfl, .slice A6 (ps.length + 1) c6, R, ⟨(unhide LS).get 0 rfl, ⟨_, _, unhide HM7⟩, ?_, by have := unhide hl3; simp; omega, unhide HTM, fun g hg => ?_⟩, (unhide LS).fr, fun g hg => ((unhide V6) g hg).1⟩
  · unfold OwnP
    rw [List.length_append]
    exact unhide HO7
  · have h6 := (unhide V6) g hg
    refine ⟨h6.2, fun e => ?_⟩
    rcases h6.1 with h7 | h7
    · exact ((unhide HAP) g h7).2 e
    · have := (unhide HLT) m (by simp [lb]); omega
theorem filter_key {es : List EE} {k : KK} {a b : List EE} {x : EE} (hp : es.Pairwise (fun a b => a.k ≠ b.k)) (he : es = a ++ x :: b) (hk : x.k = k) : (es.map EE.pr).filter (fun p => decide (p.1 ≠ k)) = (a ++ b).map EE.pr := by
  subst he
  have h1 := List.pairwise_append.1 hp
  have h2 := List.pairwise_cons.1 h1.2.1
  have ha : (a.map EE.pr).filter (fun p => decide (p.1 ≠ k)) = a.map EE.pr := by
    rw [List.filter_eq_self]
    intro p hp'
    obtain ⟨y, hy, rfl⟩ := List.mem_map.1 hp'
    have := h1.2.2 y hy x (by simp)
    rw [hk] at this
    exact decide_eq_true this
  have hb : (b.map EE.pr).filter (fun p => decide (p.1 ≠ k)) = b.map EE.pr := by
    rw [List.filter_eq_self]
    intro p hp'
    obtain ⟨y, hy, rfl⟩ := List.mem_map.1 hp'
    have := h2.1 y hy
    rw [hk] at this
    exact decide_eq_true (fun e : y.k = k => this e.symm)
  rw [List.map_append, List.map_cons, List.filter_append, List.filter_cons, ha, hb, List.map_append]
  simp [EE.pr, hk]
theorem Rel.pair {T : TT} {R : RT} {W : World} (h : Rel T R) (hT : T.Is W) : R.es.Pairwise (fun a b => a.k ≠ b.k) := by
  have h2 : (T.live.map (·.k)).Pairwise (fun a b => a ≠ b) := by rw [List.pairwise_map]; exact hT.keys
  rw [h.keys, List.pairwise_map] at h2
  exact h2
theorem rel_del {T T' : TT} {R R' : RT} {W : World} {k : KK} (h : Rel T R) (hT : T.Is W) (hp : T'.live = T.live.filter (fun q => decide (q.k ≠ k))) (hq : DelR R k R') : Rel T' R' := by
  have hs := h.some k
  have e : T'.live.map RR.pr = (T.live.map RR.pr).filter (fun p => decide (p.1 ≠ k)) := by
    rw [hp, List.filter_map]
    rfl
  unfold Rel
  rcases hq with ⟨h1, h2⟩ | ⟨a, x, b, h1, h2, h3⟩
  · rw [h1] at hs
    have hf : T.find k = none := by simpa using hs
    have : T.live.filter (fun q => decide (q.k ≠ k)) = T.live := by
      rw [List.filter_eq_self]
      intro q hq
      simpa using TT.find_none hf q hq
    rw [hp, this, h2]
    exact h
  · have hk : x.k = k := by
      obtain ⟨hi, hk⟩ := RT.find_lt h2
      simpa [h1] using hk
    rw [e, h, filter_key (h.pair hT) h1 hk, h3]
theorem map_two {α β γ δ : Type} {f : α → γ} {g : β → γ} {f2 : α → δ} {g2 : β → δ} : ∀ (l : List α) (l2 : List β), l.map f = l2.map g → l.map f2 = l2.map g2 → l.map (fun x => (f x, f2 x)) = l2.map (fun y => (g y, g2 y))
  | [], [], _, _ => rfl
  | [], _ :: _, h, _ => by simp at h
  | _ :: _, [], h, _ => by simp at h
  | x :: l, y :: l2, h, k => by
    simp only [List.map_cons, List.cons.injEq] at h k ⊢
    exact ⟨by rw [h.1, k.1], map_two l l2 h.2 k.2⟩
theorem es_filter {T : TT} {R R' : RT} {W : World} {k : KK} (h : Rel T R) (hT : T.Is W) (hq : DelR R k R') : R'.es = R.es.filter (fun e => decide (e.k ≠ k)) := by
  have hp := h.pair hT
  rcases hq with ⟨h1, h2⟩ | ⟨a, x, b, h1, h2, h3⟩
  · rw [h2, eq_comm, List.filter_eq_self]
    intro e he
    have := List.findIdx?_eq_none_iff.1 h1 e he
    simpa using this
  · have hk : x.k = k := by
      obtain ⟨hi, hk⟩ := RT.find_lt h2
      simpa [h1] using hk
    rw [h1] at hp
    have p1 := List.pairwise_append.1 hp
    have p2 := List.pairwise_cons.1 p1.2.1
    rw [h3, h1, List.filter_append, List.filter_cons]
    have ea : a.filter (fun e => decide (e.k ≠ k)) = a := by
      rw [List.filter_eq_self]
      intro y hy
      have := p1.2.2 y hy x (by simp)
      rw [hk] at this
      exact decide_eq_true this
    have eb : b.filter (fun e => decide (e.k ≠ k)) = b := by
      rw [List.filter_eq_self]
      intro y hy
      have := p2.1 y hy
      rw [hk] at this
      exact decide_eq_true (fun e : y.k = k => this e.symm)
    rw [ea, eb]
    simp [hk]
theorem al_del {T T' : TT} {R R' : RT} {W : World} {k : KK} {m : Nat} {a : Int} (h : Rel T R) (hT : T.Is W) (hp : T'.live = T.live.filter (fun q => decide (q.k ≠ k))) (hq : DelR R k R') (hal : T.live.map (fun r => decide (m < r.n)) = R.es.map (fun e => decide (a < e.n))) : T'.live.map (fun r => decide (m < r.n)) = R'.es.map (fun e => decide (a < e.n)) := by
  have hE := map_two _ _ h hal
  have h2 := congrArg (fun l => (l.filter (fun p => decide (p.1.1 ≠ k))).map Prod.snd) hE
  simp only [List.filter_map, List.map_map] at h2
  rw [hp, es_filter h hT hq]
  exact h2
theorem ris_sub {R R' : RT} (h : Ris R) (hs : R'.es.Sublist R.es) (hn : R'.nx = R.nx) : Ris R' :=
  ⟨h.1.sublist (hs.map _), fun z hz => by rw [hn]; exact h.2 z ((hs.map _).subset hz)⟩
theorem eqlB (b : Bool) (w : World) : (binOp .eql 4 (.bool b) (.bool b)).run Tryz.prog w = .ok (.bool true) w := by
  cases b <;> kernel_rfl
set_option maxRecDepth 100000 in
theorem play_delete (S : PS) (k : KK) (d : DD) (nn : Int) (inner : Value) (dep : Int) (w : World) (base N : Nat) (hS : S.Is w base N) (hN : N < 800000) (hk : OkK k) : Calls Tryz.prog 8 #[.pointer (some ⟨S.P, 0, none⟩), actV 2 k d nn inner, .int .i64 dep] w fun e w' => e = .returned (.bool true) ∧ ∃ S', S'.Is w' base (N + 1) ∧ Went S S' w w' := by
  have HU := hide hk
  clear hk
  have hr2 := hS.rel0.some k
  obtain ⟨ff, hff⟩ : ∃ ff, ff = (S.T0.find k).isSome := ⟨_, rfl⟩
  have hff2 : (S.R0.find k).isSome = ff := by rw [hff, hr2]
  have Hff := hide (And.intro hff.symm hff2)
  clear hr2 hff hff2
  have HP := hide hS.bs.hold
  have HLT := hide hS.bs.lt
  have HS := hide hS
  clear hS
  unfold actV
  go_enter Tryz.func8, Tryz.ntmps8
  go_wp2_with (first | go_skip | (refine bx 41 (actCs 2 k d nn inner) (by rfl) rfl rfl rfl (Nat.succ_pos _) (Hq.nil w []) ?_; intro w1 B hB L1 hb1; replace HP := hide ((unhide HS).bs.on hb1).hold; replace HS := hide ((unhide HS).on hb1); have LL := hide L1; have HB1 := hide hb1; have HB := hide hB; clear hB L1 hb1; simp only [Act.put, nzA, nzB, nzC]) | (refine rd (by rfl) (ex_load1 26 Tryz.isAgg26 rfl rfl (unhide HP) rfl) ?_; simp only [Act.put, nzA, nzB, nzC]) | (refine rd (by rfl) (ex_load1 28 Tryz.isAgg28 rfl rfl (unhide HP) rfl) ?_; simp only [Act.put, nzA, nzB, nzC]) | (refine rd (by rfl) (ex_load1 3 Tryz.isAgg3 rfl rfl ((unhide LL).get 0 rfl) rfl) ?_; simp only [Act.put, nzA, nzB, nzC]))
  refine wp_region_held_drew (P := Tryz.prog) (S := fun X => Holds X B (actCs 2 k d nn inner)) (by kernel_rfl) (((unhide LL).get 0 rfl).block rfl) (fun hS0 => ?_)
  refine gsem 0 (some 48) (.pointer (some ⟨S.T0.t, 0, none⟩)) rfl (by kernel_rfl) (by kernel_rfl) (by kernel_rfl) (fun _ _ _ h => h) (by kernel_rfl) (by kernel_rfl) (fun _ _ => by kernel_rfl) hS0 ?_
  simp only [Act.put, nzA, nzB, nzC]
  refine gsem 1 (some 49) (.pointer (some ⟨B, 1, none⟩)) rfl (by kernel_rfl) (by kernel_rfl) (by kernel_rfl) (fun _ _ _ h => h) (by kernel_rfl) (by kernel_rfl) (fun _ _ => by kernel_rfl) hS0 ?_
  simp only [Act.put, nzA, nzB, nzC]
  refine gsem 2 (some 50) (k.agg) rfl (by kernel_rfl) (by kernel_rfl) (by kernel_rfl) (fun _ _ _ h => h) (by kernel_rfl) (by kernel_rfl) (fun X hX => ex_loadN (vs := k.cs) 33 2 row33x siz33 rfl rfl (hX) rfl rfl) hS0 ?_
  simp only [Act.put, nzA, nzB, nzC]
  refine gsem 4 (some 52) (.pointer (some ⟨S.R0.t, 0, none⟩)) rfl (by kernel_rfl) (by kernel_rfl) (by kernel_rfl) (fun _ _ _ h => h) (by kernel_rfl) (by kernel_rfl) (fun _ _ => by kernel_rfl) hS0 ?_
  simp only [Act.put, nzA, nzB, nzC]
  refine gsem 5 (some 53) (.pointer (some ⟨B, 1, none⟩)) rfl (by kernel_rfl) (by kernel_rfl) (by kernel_rfl) (fun _ _ _ h => h) (by kernel_rfl) (by kernel_rfl) (fun _ _ => by kernel_rfl) hS0 ?_
  simp only [Act.put, nzA, nzB, nzC]
  refine gsem 6 (some 54) (k.agg) rfl (by kernel_rfl) (by kernel_rfl) (by kernel_rfl) (fun _ _ _ h => h) (by kernel_rfl) (by kernel_rfl) (fun X hX => ex_loadN (vs := k.cs) 33 2 row33x siz33 rfl rfl (hX) rfl rfl) hS0 ?_
  simp only [Act.put, nzA, nzB, nzC]
  have h1 := (unhide HS).drew
  have hz := (unhide HS).last.1
  have hes := (unhide HS).es0
  have hnx := (unhide HS).nx
  have hC := delete14 S.T0 k w1.drew h1.bs.t0 (unhide HU) (by omega)
  rw [(unhide Hff).1] at hC
  refine wpAnyH_ready (rs := [3]) (by kernel_rfl) (by simp) (gcallR 3 (some 51) rfl (by kernel_rfl) (by kernel_rfl) (by kernel_rfl) hC ?_ AllReadyH.nil)
  clear hC
  rintro _ w2 ⟨rfl, T', hT', ht, hlast, hf, hb, hp, hnu⟩
  have hBS : B < w1.drew.heap.size := hS0.lt (Nat.succ_pos _)
  have hB2 : B ∉ S.T0.blocks := fun h => by
    have := (unhide HLT) S.T0.blocks (by simp [PS.parts]) B h
    have e := unhide HB
    omega
  have hB3 : B ∉ S.R0.blocks := fun h => by
    have := (unhide HLT) S.R0.blocks (by simp [PS.parts]) B h
    have e := unhide HB
    omega
  have hS2 : Holds w2 B (actCs 2 k d nn inner) := hS0.block (hf.block B hBS hB2)
  obtain ⟨hbs2, hwn2⟩ := h1.bs.table0 hT' ht hf hb
  refine ⟨_, rfl, hS2, ?_⟩
  simp only [Act.put, nzA, nzB, nzC]
  have hC := refDelete15 S.R0 k w2 hbs2.r0 (by omega)
  rw [(unhide Hff).2] at hC
  refine wpAnyH_ready (rs := [7]) (by kernel_rfl) (by simp) (gcallR 7 (some 55) rfl (by kernel_rfl) (by kernel_rfl) (by kernel_rfl) hC ?_ AllReadyH.nil)
  clear hC
  rintro _ w4 ⟨rfl, R', hTo, hq⟩
  obtain ⟨hbs4, hwn4⟩ := hbs2.doc0 hTo.is hTo.t hTo.fr hTo.new
  have hS4 : Holds w4 B (actCs 2 k d nn inner) := hS2.block (hTo.fr.block B (hS2.lt (Nat.succ_pos _)) hB3)
  have hnr := hTo.nx
  have FIN : Hid (∃ S', PS.Is S' w4 base (N + 1) ∧ Went S S' w w4) := hide ⟨_, ⟨hbs4, rel_del h1.rel0 h1.bs.t0 hp hq, h1.rel1, ⟨by show T'.last ≤ N + 1; omega, Nat.le_trans h1.last.2 (Nat.le_succ _)⟩, ⟨by show 0 ≤ R'.nx; omega, by show R'.nx ≤ ((N + 1 : Nat) : Int); omega, hnx.2.2.1, by have := hnx.2.2.2; show S.R1.nx ≤ ((N + 1 : Nat) : Int); omega⟩, ⟨ris_sub h1.ris.1 (by rw [es_filter h1.rel0 h1.bs.t0 hq]; exact List.filter_sublist) hnr, h1.ris.2⟩, h1.cuts hnu hf.size (Below.refl _ _) hTo.fr hTo.new (Nat.le_of_eq hlast.symm) (Int.le_of_eq hnr.symm) (fun c hc => al_del h1.rel0 h1.bs.t0 hp hq (h1.cut c hc).al)⟩, (Went.refl S (below_dr (unhide HB1))).trans (hwn2.trans hwn4)⟩
  refine ⟨_, rfl, hS4, ?_⟩
  clear hbs4 hwn4 hTo hq hnr hbs2 hwn2 hS2 hT' ht hf hb hp hBS hB2 hB3 hz hes hnx h1 hS0 hlast
  simp only [Act.put, nzA, nzB, nzC]
  refine gbin 8 (some 56) (b := .eql) (t := 4) (t2 := 4) (x := .tmp 51) (y := .tmp 55) (vx := .bool ff) (vy := .bool ff) (.bool true) rfl (by kernel_rfl) (by kernel_rfl) (by kernel_rfl) (fun _ _ _ h => h) (by kernel_rfl) (by kernel_rfl) (by kernel_rfl) (by kernel_rfl) (by kernel_rfl) (fun w => eqlB ff w) (fun _ => by kernel_rfl) hS4 ?_
  simp only [Act.put, nzA, nzB, nzC]
  refine gsem 9 (some 6) (.bool true) rfl (by kernel_rfl) (by kernel_rfl) (by kernel_rfl) (fun _ _ _ h => h) (by kernel_rfl) (by kernel_rfl) (fun _ _ => by kernel_rfl) hS4 ?_
  simp only [Act.put, nzA, nzB, nzC]
  refine wpAnyH_done (by kernel_rfl) ?_ _
  try simp only [Act.put, nzA, nzB, nzC]
  clear hS4
  go_wp2
  go_ret
  exact ⟨rfl, unhide FIN⟩
set_option maxRecDepth 100000 in
theorem play_clear (S : PS) (k : KK) (d : DD) (nn : Int) (inner : Value) (dep : Int) (w : World) (base N : Nat) (hS : S.Is w base N) (hN : N < 800000) : Calls Tryz.prog 8 #[.pointer (some ⟨S.P, 0, none⟩), actV 3 k d nn inner, .int .i64 dep] w fun e w' => e = .returned (.bool true) ∧ ∃ S', S'.Is w' base (N + 1) ∧ Went S S' w w' := by
  have HP := hide hS.bs.hold
  have HLT := hide hS.bs.lt
  have HS := hide hS
  clear hS
  unfold actV
  go_enter Tryz.func8, Tryz.ntmps8
  go_wp2_with (first | go_skip | (refine bx 41 (actCs 3 k d nn inner) (by rfl) rfl rfl rfl (Nat.succ_pos _) (Hq.nil w []) ?_; intro w1 B hB L1 hb1; replace HP := hide ((unhide HS).bs.on hb1).hold; replace HS := hide ((unhide HS).on hb1); have LL := hide L1; have HB1 := hide hb1; have HB := hide hB; clear hB L1 hb1; simp only [Act.put, nzA, nzB, nzC]) | (refine rd (by rfl) (ex_load1 26 Tryz.isAgg26 rfl rfl (unhide HP) rfl) ?_; simp only [Act.put, nzA, nzB, nzC]) | (refine rd (by rfl) (ex_load1 28 Tryz.isAgg28 rfl rfl (unhide HP) rfl) ?_; simp only [Act.put, nzA, nzB, nzC]) | (refine rd (by rfl) (ex_load1 3 Tryz.isAgg3 rfl rfl ((unhide LL).get 0 rfl) rfl) ?_; simp only [Act.put, nzA, nzB, nzC]))
  refine (clear16 S.T0 w1 (unhide HS).bs.t0).mono ?_
  rintro _ w2 ⟨rfl, T', hTo, hlv⟩
  obtain ⟨hbs2, hwn2⟩ := (unhide HS).bs.table0 hTo.is hTo.t hTo.fr hTo.new
  have H2 := hide (And.intro hbs2 (And.intro hwn2 (And.intro hlv hTo.last)))
  have HNU := hide hTo.nu
  have HNS := hide hTo.fr.size
  clear hbs2 hwn2 hlv hTo
  go_wp2_with fail
  refine (refClear17 S.R0 w2 (unhide H2).1.r0).mono ?_
  rintro _ w3 ⟨rfl, R', hTo, hes⟩
  obtain ⟨hbs3, hwn3⟩ := (unhide H2).1.doc0 hTo.is hTo.t hTo.fr hTo.new
  have h0 := unhide HS
  have hnx := h0.nx
  have hla := h0.last
  have hnr := hTo.nx
  have hlt := (unhide H2).2.2.2
  have FIN : Hid (∃ S', PS.Is S' w3 base (N + 1) ∧ Went S S' w w3) := hide ⟨_, ⟨hbs3, (by unfold Rel; rw [(unhide H2).2.2.1, hes]; rfl), h0.rel1, ⟨by show T'.last ≤ N + 1; omega, Nat.le_trans hla.2 (Nat.le_succ _)⟩, ⟨by show 0 ≤ R'.nx; omega, by show R'.nx ≤ ((N + 1 : Nat) : Int); omega, hnx.2.2.1, by have := hnx.2.2.2; show S.R1.nx ≤ ((N + 1 : Nat) : Int); omega⟩, ⟨ris_sub h0.ris.1 (by rw [hes]; exact List.nil_sublist _) hnr, h0.ris.2⟩, h0.cuts (unhide HNU) (unhide HNS) (Below.refl _ _) hTo.fr hTo.new (Nat.le_of_eq hlt.symm) (Int.le_of_eq hnr.symm) (fun c hc => by rw [(unhide H2).2.2.1, hes]; rfl)⟩, (Went.refl S (unhide HB1)).trans ((unhide H2).2.1.trans hwn3)⟩
  clear hbs3 hwn3 hTo hes h0 hnx hla hnr hlt H2
  go_wp2
  go_ret
  exact ⟨rfl, unhide FIN⟩
theorem to_compact {T : TT} {w w' : World} {m : Nat} {rv : Value} (hi : (T.packed m rv).Is w') (hf : Fr w w' [T.t]) (hb : ∀ b ∈ (T.packed m rv).blocks, b ∈ T.blocks ∨ w.heap.size ≤ b) (hn : T.Nu (T.packed m rv) w w') : TT.To T (T.packed m rv) w w' :=
  ⟨hi, rfl, rfl, hf.mono (fun b hb => .inl (by obtain rfl : b = T.t := (by simpa using hb); simp [TT.blocks])), hb, hn⟩
/-- The first table holds the same, otherwise. -/
theorem PS.Is.same0 {S : PS} {W W' : World} {base N : Nat} (h : S.Is W base N) {T' : TT} (hTo : TT.To S.T0 T' W W') (hl : T'.live = S.T0.live) : ∃ S', S'.Is W' base (N + 1) ∧ Went S S' W W' := by
  obtain ⟨hbs, hwn⟩ := h.bs.table0 hTo.is hTo.t hTo.fr hTo.new
  have hla := h.last
  have hnx := h.nx
  have hlt := hTo.last
  exact ⟨_, ⟨hbs, (by unfold Rel; rw [hl]; exact h.rel0), h.rel1, ⟨by show T'.last ≤ N + 1; omega, Nat.le_trans hla.2 (Nat.le_succ _)⟩, ⟨hnx.1, by show S.R0.nx ≤ ((N + 1 : Nat) : Int); omega, hnx.2.2.1, by show S.R1.nx ≤ ((N + 1 : Nat) : Int); omega⟩, h.ris, h.cuts (R' := S.R0) hTo.nu hTo.fr.size (Below.refl _ _) (Fr.refl _ _) (fun b hb => .inl hb) (Nat.le_of_eq hlt.symm) (Int.le_refl _) (fun c hc => by rw [hl]; exact (h.cut c hc).al)⟩, hwn⟩
set_option maxRecDepth 100000 in
theorem play_compact (S : PS) (k : KK) (d : DD) (nn : Int) (inner : Value) (dep : Int) (w : World) (base N : Nat) (hS : S.Is w base N) (hN : N < 800000) : Calls Tryz.prog 8 #[.pointer (some ⟨S.P, 0, none⟩), actV 4 k d nn inner, .int .i64 dep] w fun e w' => e = .returned (.bool true) ∧ ∃ S', S'.Is w' base (N + 1) ∧ Went S S' w w' := by
  have HP := hide hS.bs.hold
  have HLT := hide hS.bs.lt
  have HS := hide hS
  clear hS
  unfold actV
  go_enter Tryz.func8, Tryz.ntmps8
  go_wp2_with (first | go_skip | (refine bx 41 (actCs 4 k d nn inner) (by rfl) rfl rfl rfl (Nat.succ_pos _) (Hq.nil w []) ?_; intro w1 B hB L1 hb1; replace HP := hide ((unhide HS).bs.on hb1).hold; replace HS := hide ((unhide HS).on hb1); have LL := hide L1; have HB1 := hide hb1; have HB := hide hB; clear hB L1 hb1; simp only [Act.put, nzA, nzB, nzC]) | (refine rd (by rfl) (ex_load1 26 Tryz.isAgg26 rfl rfl (unhide HP) rfl) ?_; simp only [Act.put, nzA, nzB, nzC]) | (refine rd (by rfl) (ex_load1 28 Tryz.isAgg28 rfl rfl (unhide HP) rfl) ?_; simp only [Act.put, nzA, nzB, nzC]) | (refine rd (by rfl) (ex_load1 3 Tryz.isAgg3 rfl rfl ((unhide LL).get 0 rfl) rfl) ?_; simp only [Act.put, nzA, nzB, nzC]))
  refine (compact18 S.T0 w1 (unhide HS).bs.t0 (by have := (unhide HS).last.1; omega)).mono ?_
  rintro _ w2 ⟨rfl, m, rv, hi, hf, hb, hnu⟩
  obtain ⟨S', hS', hW'⟩ := (unhide HS).same0 (to_compact hi hf hb hnu) (TT.packed_live _ _ _)
  have FIN : Hid (∃ S', PS.Is S' w2 base (N + 1) ∧ Went S S' w w2) := hide ⟨S', hS', (Went.refl S (unhide HB1)).trans hW'⟩
  clear hi hf hb hnu hS' hW'
  go_wp2
  go_ret
  exact ⟨rfl, unhide FIN⟩
set_option maxRecDepth 100000 in
theorem play_tell (S : PS) (k : KK) (d : DD) (nn : Int) (inner : Value) (dep : Int) (w : World) (base N : Nat) (hS : S.Is w base N) (hN : N < 800000) (hU : Lib.Utf8Tabs 2 3 w) (hP : TabP w) : Calls Tryz.prog 8 #[.pointer (some ⟨S.P, 0, none⟩), actV 7 k d nn inner, .int .i64 dep] w fun e w' => e = .returned (.bool true) ∧ ∃ S', S'.Is w' base (N + 1) ∧ Went S S' w w' := by
  have HU : Hid (∀ X, Below w.heap.size w X → Lib.Utf8Tabs 2 3 X ∧ TabP X) := hide (fun X hX => ⟨tabs_fr hU (Fr.of_below hX []) (by simp), hP.on hX⟩)
  clear hU hP
  have HP := hide hS.bs.hold
  have HLT := hide hS.bs.lt
  have HS := hide hS
  clear hS
  unfold actV
  go_enter Tryz.func8, Tryz.ntmps8
  go_wp2_with (first | go_skip | (refine bx 41 (actCs 7 k d nn inner) (by rfl) rfl rfl rfl (Nat.succ_pos _) (Hq.nil w []) ?_; intro w1 B hB L1 hb1; replace HP := hide ((unhide HS).bs.on hb1).hold; replace HS := hide ((unhide HS).on hb1); have LL := hide L1; have HB1 := hide hb1; have HB := hide hB; clear hB L1 hb1; simp only [Act.put, nzA, nzB, nzC]) | (refine rd (by rfl) (ex_load1 26 Tryz.isAgg26 rfl rfl (unhide HP) rfl) ?_; simp only [Act.put, nzA, nzB, nzC]) | (refine rd (by rfl) (ex_load1 28 Tryz.isAgg28 rfl rfl (unhide HP) rfl) ?_; simp only [Act.put, nzA, nzB, nzC]) | (refine rd (by rfl) (ex_load1 3 Tryz.isAgg3 rfl rfl ((unhide LL).get 0 rfl) rfl) ?_; simp only [Act.put, nzA, nzB, nzC]))
  refine (tells9_0 S.T0 S.R0 S.P S.T1.t S.R1.t S.left w1 (unhide HS).bs.hold (unhide HS).bs.t0 (unhide HS).bs.r0 (unhide HS).rel0 (by have := (unhide HS).last.1; omega) (by have := (unhide HS).live0; omega) ((unhide HU) _ (unhide HB1)).1 ((unhide HU) _ (unhide HB1)).2).mono ?_
  rintro _ w2 ⟨rfl, hb⟩
  replace HS := hide ((unhide HS).on hb)
  replace HB1 := hide ((unhide HB1).trans (hb.mono (unhide HB1).size))
  clear hb
  go_wp2_with fail
  refine (tells9_1 S.T1 S.R1 S.P S.T0.t S.R0.t S.left w2 (unhide HS).bs.hold (unhide HS).bs.t1 (unhide HS).bs.r1 (unhide HS).rel1 (by have := (unhide HS).last.2; omega) (by have := (unhide HS).live1; omega) ((unhide HU) _ (unhide HB1)).1 ((unhide HU) _ (unhide HB1)).2).mono ?_
  rintro _ w3 ⟨rfl, hb⟩
  replace HS := hide ((unhide HS).on hb)
  replace HB1 := hide ((unhide HB1).trans (hb.mono (unhide HB1).size))
  clear hb
  go_wp2
  go_ret
  exact ⟨rfl, S, (unhide HS).mono (Nat.le_succ _), Went.refl S (unhide HB1)⟩
set_option maxRecDepth 100000 in
theorem play_other (z : Int) (S : PS) (k : KK) (d : DD) (nn : Int) (inner : Value) (dep : Int) (w : World) (base N : Nat) (hS : S.Is w base N) (hN : N < 800000) (h1 : ¬ z = 1) (h2 : ¬ z = 2) (h3 : ¬ z = 3) (h4 : ¬ z = 4) (h5 : ¬ z = 5) (h6 : ¬ z = 6) (h7 : ¬ z = 7) (h8 : ¬ z = 8) (h9 : ¬ z = 9) (h10 : ¬ z = 10) : Calls Tryz.prog 8 #[.pointer (some ⟨S.P, 0, none⟩), actV z k d nn inner, .int .i64 dep] w fun e w' => e = .returned (.bool true) ∧ ∃ S', S'.Is w' base (N + 1) ∧ Went S S' w w' := by
  have HP := hide hS.bs.hold
  have HLT := hide hS.bs.lt
  have HS := hide hS
  clear hS
  unfold actV
  go_enter Tryz.func8, Tryz.ntmps8
  go_wp2_with (first | go_skip | (refine bx 41 (actCs z k d nn inner) (by rfl) rfl rfl rfl (Nat.succ_pos _) (Hq.nil w []) ?_; intro w1 B hB L1 hb1; replace HP := hide ((unhide HS).bs.on hb1).hold; replace HS := hide ((unhide HS).on hb1); have LL := hide L1; have HB1 := hide hb1; have HB := hide hB; clear hB L1 hb1; simp only [Act.put, nzA, nzB, nzC]) | (refine rd (by rfl) (ex_load1 26 Tryz.isAgg26 rfl rfl (unhide HP) rfl) ?_; simp only [Act.put, nzA, nzB, nzC]) | (refine rd (by rfl) (ex_load1 28 Tryz.isAgg28 rfl rfl (unhide HP) rfl) ?_; simp only [Act.put, nzA, nzB, nzC]) | (refine rd (by rfl) (ex_load1 3 Tryz.isAgg3 rfl rfl ((unhide LL).get 0 rfl) rfl) ?_; simp only [Act.put, nzA, nzB, nzC]))
  go_ret
  exact ⟨rfl, S, (unhide HS).mono (Nat.le_succ _), Went.refl S (unhide HB1)⟩
