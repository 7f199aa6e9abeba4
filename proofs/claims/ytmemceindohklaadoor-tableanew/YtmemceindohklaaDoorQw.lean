import Derived.Test.YtmemceindohklaaDoorQp

/-! Oj -/
namespace Go.Proofs.YtmemceindohklaaDoor
open Go Go.Proofs Go.Maps Go.RowKit
set_option linter.unusedSimpArgs false
set_option linter.unusedVariables false
set_option maxHeartbeats 1000000
/-- A table of which nothing is known but that it can be added to. -/
structure Loose (W : World) (t m : Nat) (rv : Value) (n : Nat) (ps : List Nat) : Prop where
  tab : Holds W t [.map (some m), rv, .int .u64 n]
  map : ∃ sz F, MapIs W m n sz F
  own : OwnP W rv ps
  len : ps.length ≤ n
  tm : t ≠ m
  ap : ∀ g, rv.ownBlock = some g → g ≠ t ∧ g ≠ m
def lb (t m : Nat) (rv : Value) : List Nat := t :: m :: rv.ownBlock.toList
theorem Loose.lt {W : World} {t m : Nat} {rv : Value} {n : Nat} {ps : List Nat} (h : Loose W t m rv n ps) : ∀ b ∈ lb t m rv, b < W.heap.size := by
  intro b hb
  simp only [lb, List.mem_cons] at hb
  rcases hb with rfl | rfl | hb
  · exact h.tab.lt (by simp)
  · obtain ⟨sz, F, hm⟩ := h.map
    exact hm.lt
  · exact (World.ownsRow.lt h.own b (by simpa using hb)).2
theorem Loose.block {W W' : World} {t m : Nat} {rv : Value} {n : Nat} {ps : List Nat} (h : Loose W t m rv n ps) (he : ∀ b ∈ lb t m rv, W'.heap[b]? = W.heap[b]?) : Loose W' t m rv n ps := by
  obtain ⟨h1, ⟨sz, F, h2⟩, h3, h4, h5, h6⟩ := h
  exact ⟨h1.block (he _ (by simp [lb])), ⟨sz, F, h2.block (he _ (by simp [lb]))⟩, h3.block (fun g hg => he g (by simp [lb, hg])), h4, h5, h6⟩
/-- The map and the rows of such a table. -/
def LM (m : Nat) (n : Nat) (v : Value) (ps : List Nat) (sz : Nat) (F : KK → Option Nat) (W : World) : Prop := MapIs W m n sz F ∧ OwnP W v ps
theorem LM.block {m n sz : Nat} {v : Value} {ps : List Nat} {F : KK → Option Nat} {W W' : World} (h : LM m n v ps sz F W) (he : ∀ b, b = m ∨ v.ownBlock = some b → W'.heap[b]? = W.heap[b]?) : LM m n v ps sz F W' :=
  ⟨h.1.block (he _ (.inl rfl)), h.2.block (fun g hg => he g (.inr hg))⟩
theorem LM.lt {m n sz : Nat} {v : Value} {ps : List Nat} {F : KK → Option Nat} {W : World} (h : LM m n v ps sz F W) : ∀ b, b = m ∨ v.ownBlock = some b → b < W.heap.size := by
  intro b hb
  rcases hb with rfl | hb
  · exact h.1.lt
  · exact (World.ownsRow.lt h.2 b hb).2
theorem LM.on {m n sz : Nat} {v : Value} {ps : List Nat} {F : KK → Option Nat} {W W' : World} (h : LM m n v ps sz F W) (hb : Below W.heap.size W W') : LM m n v ps sz F W' := h.block (fun b hb' => hb.block b (h.lt b hb'))
theorem LM.fr {m n sz : Nat} {v : Value} {ps : List Nat} {F : KK → Option Nat} {W W' : World} {E : List Nat} (h : LM m n v ps sz F W) (hf : Fr W W' E) (hE : ∀ b, b = m ∨ v.ownBlock = some b → b ∉ E) : LM m n v ps sz F W' := h.block (fun b hb => hf.block b (h.lt b hb) (hE b hb))
theorem fourw {t n R B : Nat} {c1 c2 c3 c4 : List Value} {q : Nat × List Value} (hq : q ∈ [(t, c1), (n, c2), (R, c3), (B, c4)]) (hR : n ≤ R) (hB : n ≤ B) : q.1 = t ∨ n ≤ q.1 := by
  simp only [List.mem_cons, List.not_mem_nil, or_false] at hq
  rcases hq with rfl | rfl | rfl | rfl
  · exact .inl rfl
  · exact .inr (Nat.le_refl _)
  · exact .inr hR
  · exact .inr hB
theorem not_rvw {t m n b : Nat} {rv : Value} (hlt : ∀ b ∈ lb t m rv, b < n) (hap : ∀ g, rv.ownBlock = some g → g ≠ t ∧ g ≠ m) (hb : b = t ∨ n ≤ b) (hm : b ∈ rv.ownBlock.toList) : False := by
  have h1 : rv.ownBlock = some b := by simpa using hm
  rcases hb with hb | hb
  · exact (hap b h1).1 hb
  · have := hlt b (by simp only [lb, List.mem_cons]; exact .inr (.inr hm))
    omega
theorem not_mw {t m n b : Nat} {rv : Value} (hlt : ∀ b ∈ lb t m rv, b < n) (htm : t ≠ m) (hb : b = t ∨ n ≤ b) (hm : b ∈ [m]) : False := by
  obtain e : b = m := by simpa using hm
  rcases hb with hb | hb
  · exact htm (hb.symm.trans e)
  · have := hlt m (by simp [lb])
    omega
theorem freshw {t m n R : Nat} {rv v : Value} {X : World} (hlt : ∀ b ∈ lb t m rv, b < n) (hap : ∀ g, rv.ownBlock = some g → g ≠ t ∧ g ≠ m) (hf : Fresh X rv v) (hR : R < X.heap.size) (hs : n ≤ X.heap.size) (hR2 : n ≤ R) : ∀ g, v.ownBlock = some g → (rv.ownBlock = some g ∨ n ≤ g) ∧ g ≠ t := by
  intro g hg
  have ht := hlt t (by simp [lb])
  rcases hf with h | h
  · rw [hg] at h
    exact ⟨.inl h.symm, (hap g h.symm).1⟩
  · rw [hg] at h
    have := Option.some.inj h
    exact ⟨.inr (by omega), by omega⟩
set_option maxRecDepth 100000 in
theorem add34w (t m : Nat) (rv : Value) (n : Nat) (ps : List Nat) (k : KK) (d : DD) (w : World) (hT : Loose w t m rv n ps) (hk : OkK k) (hn : n < 1000000) : Calls Tryd.prog 28 #[.pointer (some ⟨t, 0, none⟩), .agg (k.cs ++ d.cs).toArray] w fun e w' => e = .returned (.tuple #[]) ∧ ∃ rv' R, Loose w' t m rv' (n + 1) (ps ++ [R]) ∧ Fr w w' (lb t m rv) ∧ (∀ g, rv'.ownBlock = some g → rv.ownBlock = some g ∨ w.heap.size ≤ g) := by
  obtain ⟨sz, F, hM⟩ := hT.map
  have bl0 := (Below.refl w.heap.size w).alloc (Nat.le_refl _) (Obj.cells (k.cs ++ d.cs).toArray 54)
  have LL := hide (((Hq.nil w (lb t m rv)).add hT.tab (Nat.succ_pos _) (fun q hq => by cases hq)).new (k.cs ++ d.cs) 54 (Nat.succ_pos _))
  have MM : Hid (LM m n rv ps sz F (w.alloc (Obj.cells (k.cs ++ d.cs).toArray 54))) := hide (LM.on ⟨hM, hT.own⟩ bl0)
  have HLT := hide hT.lt
  have HAP := hide hT.ap
  have HTM := hide hT.tm
  have hlen := hT.len
  have hl2 : Hid (n < 1000000) := hide hn
  have hl3 : Hid (ps.length + 1 ≤ 1000000 ∧ ps.length ≤ n) := hide ⟨by omega, hlen⟩
  have hk2 := hide hk
  have htE : Hid (∀ b ∈ [t], b ∈ lb t m rv ∨ w.heap.size ≤ b) := hide (fun b hb => .inl (by obtain rfl : b = t := (by simpa using hb); simp [lb]))
  clear hT hn hk hM bl0 hlen
  go_enter Tryd.func28, Tryd.ntmps28
  go_wp2_with (first | go_skip | ((with_reducible show wpList _ _ _ _ _ _); first | ((refine rd (by rfl) (ex_load1 69 Tryd.isAgg69 rfl rfl ((unhide LL).get 0 rfl) rfl) ?_); simp only [Act.put, List.setIfInBounds_toArray, List.set_cons_succ, List.set_cons_zero]) | ((refine rd (by rfl) (ex_addu rfl rfl rfl (unhide hl2)) ?_); simp only [Act.put, List.setIfInBounds_toArray, List.set_cons_succ, List.set_cons_zero]) | ((refine st (vs := [.int .u64 ((n : Int) + 1)]) 0 69 (by rfl) rfl rfl rfl rfl (by simp [Value.oneCell']) siz71 (unhide LL) rfl (by simp [cput]) (Or.inl (List.mem_cons_self ..)) ?_); intro w3 L3 hf3 hs3; replace LL := hide L3; replace MM := hide ((unhide MM).fr hf3 (fun b hb hm => by obtain e : b = t := (by simpa using hm); rcases hb with hb | hb; exact (unhide HTM) (e.symm.trans hb); exact ((unhide HAP) b hb).1 e)); clear L3 hf3 hs3; simp only [Act.put, List.setIfInBounds_toArray, List.set_cons_succ, List.set_cons_zero])))
  obtain ⟨R, hRe⟩ : ∃ R, R = w3.drew.heap.size := ⟨_, rfl⟩
  refine wp_region_held_drew (P := Tryd.prog) (S := fun X => Hq w X (lb t m rv) [(t, [.map (some m), rv, .int .u64 ((n : Int) + 1)]), (w.heap.size, (k.cs ++ d.cs))]) (by kernel_rfl) (unhide LL).drew (fun hS0 => ?_)
  refine gsem 0 (some 12) (.agg (k.cs ++ d.cs).toArray) rfl (by kernel_rfl) (by kernel_rfl) (by kernel_rfl) (fun _ _ _ h => h) (by kernel_rfl) (by kernel_rfl) (fun X hX => ex_loadN (vs := (k.cs ++ d.cs)) 54 20 row58 siz58 rfl rfl (hX.get 1 rfl) rfl rfl) hS0 ?_
  simp only [Act.put, List.setIfInBounds_toArray, List.set_cons_succ, List.set_cons_zero]
  refine gsem 1 (some 13) (.pointer (some ⟨t, 0, none⟩)) rfl (by kernel_rfl) (by kernel_rfl) (by kernel_rfl) (fun _ _ _ h => h) (by kernel_rfl) (by kernel_rfl) (fun _ _ => by kernel_rfl) hS0 ?_
  simp only [Act.put, List.setIfInBounds_toArray, List.set_cons_succ, List.set_cons_zero]
  refine gsem 2 (some 14) (.pointer (some ⟨t, 0, none⟩)) rfl (by kernel_rfl) (by kernel_rfl) (by kernel_rfl) (fun _ _ _ h => h) (by kernel_rfl) (by kernel_rfl) (fun _ _ => by kernel_rfl) hS0 ?_
  simp only [Act.put, List.setIfInBounds_toArray, List.set_cons_succ, List.set_cons_zero]
  refine gsem 3 (some 15) (.pointer (some ⟨t, 2, none⟩)) rfl (by kernel_rfl) (by kernel_rfl) (by kernel_rfl) (fun _ _ _ h => h) (by kernel_rfl) (by kernel_rfl) (fun _ _ => by kernel_rfl) hS0 ?_
  simp only [Act.put, List.setIfInBounds_toArray, List.set_cons_succ, List.set_cons_zero]
  refine gsem 4 (some 16) (.int .u64 ((n : Int) + 1)) rfl (by kernel_rfl) (by kernel_rfl) (by kernel_rfl) (fun _ _ _ h => h) (by kernel_rfl) (by kernel_rfl) (fun X hX => ex_load1 69 Tryd.isAgg69 rfl rfl (hX.get 0 rfl) rfl) hS0 ?_
  simp only [Act.put, List.setIfInBounds_toArray, List.set_cons_succ, List.set_cons_zero]
  refine gsem 5 (some 17) (.agg (RR.mk R k d (n + 1) false).cs.toArray) rfl (by kernel_rfl) (by kernel_rfl) (by kernel_rfl) (fun _ _ _ h => h) (by kernel_rfl) (by kernel_rfl) (fun _ _ => by kernel_rfl) hS0 ?_
  simp only [Act.put, List.setIfInBounds_toArray, List.set_cons_succ, List.set_cons_zero]
  have bl := (Below.refl w3.drew.heap.size w3.drew).alloc (Nat.le_refl _) (Obj.cells (RR.mk R k d (n + 1) false).cs.toArray 75)
  have L2 := hS0.new (RR.mk R k d (n + 1) false).cs 75 (Nat.succ_pos _)
  refine wpAnyH_ready (rs := [6]) (by kernel_rfl) (by simp) (gval 6 (some 18) rfl (by kernel_rfl) (by kernel_rfl) (ex_box 75 (RR.mk R k d (n + 1) false).cs rfl rfl rfl) (hS0.on bl) ?_ AllReadyH.nil)
  have hR : Hid (w.heap.size ≤ R) := hide (Nat.le_trans hS0.fr.size (Nat.le_of_eq hRe.symm))
  replace hS0 := hS0.on bl
  replace MM := hide (((unhide MM).block (W' := w3.drew) (fun _ _ => rfl)).on bl)
  simp only [Act.put, List.setIfInBounds_toArray, List.set_cons_succ, List.set_cons_zero]
  rw [← hRe] at L2 ⊢
  clear bl
  generalize w3.drew.alloc (Obj.cells (RR.mk R k d (n + 1) false).cs.toArray 75) = w4 at *
  clear hRe
  refine gsem 7 (some 4) (.pointer (some ⟨R, 0, none⟩)) rfl (by kernel_rfl) (by kernel_rfl) (by kernel_rfl) (fun _ _ _ h => h) (by kernel_rfl) (by kernel_rfl) (fun _ _ => by kernel_rfl) hS0 ?_
  simp only [Act.put, List.setIfInBounds_toArray, List.set_cons_succ, List.set_cons_zero]
  refine wpAnyH_done (by kernel_rfl) ?_ _
  try simp only [Act.put, List.setIfInBounds_toArray, List.set_cons_succ, List.set_cons_zero]
  replace LL := hide L2
  clear hS0 L2
  go_wp2_with (first | go_skip | ((with_reducible show wpList _ _ _ _ _ _); first | ((refine rd (by rfl) (ex_load1 68 Tryd.isAgg68 rfl rfl ((unhide LL).get 0 rfl) rfl) ?_); simp only [Act.put, List.setIfInBounds_toArray, List.set_cons_succ, List.set_cons_zero]) | ((refine build_any (t := 68) (e := 72) (size := 1) (bytes := 8) (z := .pointer none) (cs := [.pointer (some ⟨R, 0, none⟩)]) (by rfl) rfl rfl Tryd.underlying68 info74 (by decide) rfl rfl (by decide) (unhide LL) ?_); intro w5 B5 hB5 L5 hb5; have hB5 := hide (Nat.le_trans (unhide LL).fr.size (Nat.le_of_eq hB5.symm)); replace LL := hide L5; replace MM := hide ((unhide MM).on hb5); clear L5 hb5; simp only [Act.put, List.setIfInBounds_toArray, List.set_cons_succ, List.set_cons_zero]) | ((refine append_any (v := rv) rfl rfl rfl rfl Tryd.underlying68 info74 rfl (by decide) (unhide MM).2 ((unhide LL).get 3 rfl) rfl (by simp [Value.oneCell']) (unhide hl3).1 (by decide) (Nat.zero_le _) ?_); intro A6 c6 w6 ho6 hg6 hf6; have V6 := hide (freshw (unhide HLT) (unhide HAP) hf6 ((unhide LL).lt (R, (RR.mk R k d (n + 1) false).cs) (by simp)) (unhide LL).fr.size (unhide hR)); have HO6 : Hid (w6.ownsRow 0 72 1 (.slice A6 (ps.length + 1) c6) (ps.length + 1) (ptrs (ps ++ [R]))) := hide (by have h := ho6; unfold ptrs at h ⊢; rw [List.map_append]; exact h); have HM6 : Hid (MapIs w6 m n sz F) := hide ((unhide MM).1.block (hg6.block m (unhide MM).1.lt (fun e => ((unhide HAP) m e.symm).2 rfl))); replace LL := hide ((unhide LL).step (Fr.grown hg6) (fun b hb => Or.inl (by simp only [lb, List.mem_cons]; exact Or.inr (Or.inr hb))) (fun q hq hm => not_rvw (unhide HLT) (unhide HAP) (fourw hq (unhide hR) (unhide hB5)) hm)); clear MM ho6 hg6 hf6; simp only [Act.put, List.setIfInBounds_toArray, List.set_cons_succ, List.set_cons_zero]) | ((refine st (vs := [.slice A6 _ c6]) 0 68 (by rfl) rfl rfl rfl rfl (by simp [Value.oneCell']) siz70 (unhide LL) rfl (by simp [cput]) (Or.inl (List.mem_cons_self ..)) ?_); intro w7 L7 hf7 hs7; replace LL := hide L7; replace HO6 := hide (own_block (w' := w7) (unhide HO6) (fun g hg => hf7.block g (World.ownsRow.lt (unhide HO6) g hg).2 (fun hm => ((unhide V6) g hg).2 (by simpa using hm)))); replace HM6 := hide ((unhide HM6).block (hf7.block m (unhide HM6).lt (fun hm => (unhide HTM) (by simpa using (by simpa using hm : m = t).symm)))); clear L7 hf7 hs7; simp only [Act.put, List.setIfInBounds_toArray, List.set_cons_succ, List.set_cons_zero])))
  refine wp_region_held_drew (P := Tryd.prog) (S := fun X => Hq w X (lb t m rv) [(t, [.map (some m), .slice A6 (ps.length + 1) c6, .int .u64 ((n : Int) + 1)]), (w.heap.size, (k.cs ++ d.cs)), (R, (RR.mk R k d (n + 1) false).cs), (B5, [.pointer (some ⟨R, 0, none⟩)])]) (by kernel_rfl) (unhide LL).drew (fun hS0 => ?_)
  refine gsem 0 (some 29) (.pointer (some ⟨t, 0, none⟩)) rfl (by kernel_rfl) (by kernel_rfl) (by kernel_rfl) (fun _ _ _ h => h) (by kernel_rfl) (by kernel_rfl) (fun _ _ => by kernel_rfl) hS0 ?_
  simp only [Act.put, List.setIfInBounds_toArray, List.set_cons_succ, List.set_cons_zero]
  refine gsem 1 (some 30) (.pointer (some ⟨t, 0, none⟩)) rfl (by kernel_rfl) (by kernel_rfl) (by kernel_rfl) (fun _ _ _ h => h) (by kernel_rfl) (by kernel_rfl) (fun _ _ => by kernel_rfl) hS0 ?_
  simp only [Act.put, List.setIfInBounds_toArray, List.set_cons_succ, List.set_cons_zero]
  refine gsem 2 (some 31) (.pointer (some ⟨t, 0, none⟩)) rfl (by kernel_rfl) (by kernel_rfl) (by kernel_rfl) (fun _ _ _ h => h) (by kernel_rfl) (by kernel_rfl) (fun _ _ => by kernel_rfl) hS0 ?_
  simp only [Act.put, List.setIfInBounds_toArray, List.set_cons_succ, List.set_cons_zero]
  refine gsem 3 (some 32) (.map (some m)) rfl (by kernel_rfl) (by kernel_rfl) (by kernel_rfl) (fun _ _ _ h => h) (by kernel_rfl) (by kernel_rfl) (fun X hX => ex_load1 67 Tryd.isAgg67 rfl rfl (hX.get 0 rfl) rfl) hS0 ?_
  simp only [Act.put, List.setIfInBounds_toArray, List.set_cons_succ, List.set_cons_zero]
  refine gsem 4 (some 33) (.pointer (some ⟨w.heap.size, 0, none⟩)) rfl (by kernel_rfl) (by kernel_rfl) (by kernel_rfl) (fun _ _ _ h => h) (by kernel_rfl) (by kernel_rfl) (fun _ _ => by kernel_rfl) hS0 ?_
  simp only [Act.put, List.setIfInBounds_toArray, List.set_cons_succ, List.set_cons_zero]
  refine gsem 5 (some 34) (k.agg) rfl (by kernel_rfl) (by kernel_rfl) (by kernel_rfl) (fun _ _ _ h => h) (by kernel_rfl) (by kernel_rfl) (fun X hX => ex_loadN (vs := k.cs) 34 2 row33x siz33 rfl rfl (hX.get 1 rfl) rfl rfl) hS0 ?_
  simp only [Act.put, List.setIfInBounds_toArray, List.set_cons_succ, List.set_cons_zero]
  refine gsem 6 (some 35) (.pointer (some ⟨R, 0, none⟩)) rfl (by kernel_rfl) (by kernel_rfl) (by kernel_rfl) (fun _ _ _ h => h) (by kernel_rfl) (by kernel_rfl) (fun _ _ => by kernel_rfl) hS0 ?_
  simp only [Act.put, List.setIfInBounds_toArray, List.set_cons_succ, List.set_cons_zero]
  refine wpAnyH_ready (rs := [7]) (by kernel_rfl) (by simp) (gupd (r := R) 7 rfl (by kernel_rfl) (by kernel_rfl) rfl rfl rfl rfl (unhide HM6).drew (unhide hk2) (by have h2 := unhide hl2; unfold maxLen; omega) (fun X hX => (hS0.step hX (fun b hb => Or.inl (by obtain rfl : b = m := (by simpa using hb); simp [lb])) (fun q hq hm => not_mw (unhide HLT) (unhide HTM) (fourw hq (unhide hR) (unhide hB5)) hm))) ?_ AllReadyH.nil)
  intro X hM hX
  replace hS0 := (hS0.step hX (fun b hb => Or.inl (by obtain rfl : b = m := (by simpa using hb); simp [lb])) (fun q hq hm => not_mw (unhide HLT) (unhide HTM) (fourw hq (unhide hR) (unhide hB5)) hm))
  have HM7 := hide hM
  have HO7 : Hid (X.ownsRow 0 72 1 (.slice A6 (ps.length + 1) c6) (ps.length + 1) (ptrs (ps ++ [R]))) := hide (own_block (w' := X) (own_block (w' := w7.drew) (unhide HO6) (fun _ _ => rfl)) (fun g hg => hX.block g (World.ownsRow.lt (unhide HO6) g hg).2 (fun hm => by obtain e : g = m := (by simpa using hm); rcases ((unhide V6) g hg).1 with h7 | h7; exact ((unhide HAP) g h7).2 e; have := (unhide HLT) m (by simp [lb]); omega)))
  clear hM hX HM6 HO6
  simp only [Act.put, List.setIfInBounds_toArray, List.set_cons_succ, List.set_cons_zero]
  refine wpAnyH_done (by kernel_rfl) ?_ _
  try simp only [Act.put, List.setIfInBounds_toArray, List.set_cons_succ, List.set_cons_zero]
  have LS := hide hS0
  clear hS0 LL
  go_wp2
  go_end0
  refine ⟨rfl, .slice A6 (ps.length + 1) c6, R, ⟨(unhide LS).get 0 rfl, ⟨_, _, unhide HM7⟩, ?_, by have := unhide hl3; simp; omega, unhide HTM, fun g hg => ?_⟩, (unhide LS).fr, fun g hg => ((unhide V6) g hg).1⟩
  · unfold OwnP
    rw [List.length_append]
    exact unhide HO7
  · have h6 := (unhide V6) g hg
    refine ⟨h6.2, fun e => ?_⟩
    rcases h6.1 with h7 | h7
    · exact ((unhide HAP) g h7).2 e
    · have := (unhide HLT) m (by simp [lb]); omega
end Go.Proofs.YtmemceindohklaaDoor

/-! Pe -/
namespace Go.Proofs.YtmemceindohklaaDoor
open Go Go.Proofs Go.Maps Go.RowKit
set_option linter.unusedSimpArgs false
set_option linter.unusedVariables false
set_option maxHeartbeats 1000000
theorem each_inM (n : Nat) (hn : 1 ≤ n) (l Bn n₀ : Nat) (T : TT) (J Jx : List (KK × DD) → World → Prop)
    (W : World) (hAb : AbidesFrom W.heap.size J) (hT : T.Is W) (hlast : T.last < 1000000) (hlt : ∀ b ∈ T.blocks, b < n₀)
    (hY : ∀ pre x W, J pre W → pre.length < T.live.length → x ∈ T.live.map RR.pr → YieldAt Fence.wide (n - 1) Tryd.prog l (encP x) W fun e W' =>
      (e = .returned (.bool true) ∧ J (pre ++ [x]) W' ∧ Kb n₀ Bn W W') ∨ (e = .returned (.bool false) ∧ Jx (pre ++ [x]) W'))
    (hBn : W.cell? ⟨Bn, 0, none⟩ = some (.pointer (some ⟨T.t, 0, none⟩))) (h0 : J [] W) (hn₀ : n₀ ≤ W.heap.size) :
    CallsIn Fence.wide n Tryd.prog 32 #[.func (.yield l) #[] #[], .pointer (some ⟨Bn, 0, none⟩)] W fun e W' => (∃ v, e = .returned v) ∧
      ((∃ ys, ys = T.live.map RR.pr ∧ J ys W') ∨ (∃ pre, pre <+: T.live.map RR.pr ∧ Jx pre W')) := by
  have HN := hide (next50 T 0 W hT (by omega) (by omega))
  refine callsIn_of_wp Tryd.func32 rfl trivial ?_ rfl
  simp only [Tryd.ntmps32, List.size_toArray, List.length_cons, List.length_nil, Nat.reduceAdd, Nat.reduceSub, Array.replicate_succ, Array.replicate_zero, List.push_toArray, List.append_toArray, List.nil_append, List.cons_append]
  gi_wp2_with fail
  refine ⟨trivial, (callsIn_wide.2 (unhide HN)).mono ?_⟩
  rintro e w1 ⟨rfl, rfl⟩
  gi_wp2
  gi_loopw [3] (fun s3 wr => ∃ (pre : List (KK × DD)) (m : Nat), s3 = pv ((T.next m).map (·.b)) ∧ Hid (T.live.map RR.pr = pre ++ (T.rows.filter (after m)).map RR.pr) ∧ Hid (J pre wr) ∧ Hid (T.Is wr) ∧ wr.cell? ⟨Bn, 0, none⟩ = some (.pointer (some ⟨T.t, 0, none⟩)) ∧ Hid (n₀ ≤ wr.heap.size ∧ w1.heap.size ≤ wr.heap.size ∧ m ≤ T.last)) (fun s3 _ => left T s3)
  case atStart =>
    exact ⟨[], 0, rfl, hide (by rw [from_zero hT]; rfl), hide h0, hide hT, hBn, hide ⟨hn₀, Nat.le_refl _, Nat.zero_le _⟩⟩
  case round =>
    obtain ⟨pre, m, rfl, HX, HJ, HT, hc, HZ⟩ := hrel
    have HY := hide hY
    have HAb := hide hAb
    clear hY hAb h0 hBn hT HN
    cases hnx : T.next m with
    | none =>
      rw [show pv ((none : Option RR).map (·.b)) = .pointer none from rfl]
      gi_wp2
      refine wpIn_region_any (by kernel_rfl) ?_
      refine ip 0 (some 6) (.pointer none) rfl (by kernel_rfl) (by kernel_rfl) (by kernel_rfl) (fun _ _ _ h => h) (by kernel_rfl) (by kernel_rfl) (fun _ => by kernel_rfl) (fun _ => by kernel_rfl) ?_
      simp only [Act.put, List.setIfInBounds_toArray, List.set_cons_succ, List.set_cons_zero]
      refine ip 1 (some 7) (.bool false) rfl (by kernel_rfl) (by kernel_rfl) (by kernel_rfl) (fun _ _ _ h => h) (by kernel_rfl) (by kernel_rfl) (fun _ => by kernel_rfl) (fun _ => by kernel_rfl) ?_
      simp only [Act.put, List.setIfInBounds_toArray, List.set_cons_succ, List.set_cons_zero]
      refine ip 2 (some 8) (.bool false) rfl (by kernel_rfl) (by kernel_rfl) (by kernel_rfl) (fun _ _ _ h => h) (by kernel_rfl) (by kernel_rfl) (fun _ => by kernel_rfl) (fun _ => by kernel_rfl) ?_
      simp only [Act.put, List.setIfInBounds_toArray, List.set_cons_succ, List.set_cons_zero]
      refine isk 3 (some 9) rfl (by kernel_rfl) (by kernel_rfl) (by kernel_rfl) (fun _ _ _ h => h) (by kernel_rfl) (by kernel_rfl) (fun _ => by kernel_rfl) ?_
      simp only [Act.put, List.setIfInBounds_toArray, List.set_cons_succ, List.set_cons_zero]
      refine isk 4 (some 10) rfl (by kernel_rfl) (by kernel_rfl) (by kernel_rfl) (fun _ _ _ h => h) (by kernel_rfl) (by kernel_rfl) (fun _ => by kernel_rfl) ?_
      simp only [Act.put, List.setIfInBounds_toArray, List.set_cons_succ, List.set_cons_zero]
      refine isk 5 (some 11) rfl (by kernel_rfl) (by kernel_rfl) (by kernel_rfl) (fun _ _ _ h => h) (by kernel_rfl) (by kernel_rfl) (fun _ => by kernel_rfl) ?_
      simp only [Act.put, List.setIfInBounds_toArray, List.set_cons_succ, List.set_cons_zero]
      refine isk 6 (some 12) rfl (by kernel_rfl) (by kernel_rfl) (by kernel_rfl) (fun _ _ _ h => h) (by kernel_rfl) (by kernel_rfl) (fun _ => by kernel_rfl) ?_
      simp only [Act.put, List.setIfInBounds_toArray, List.set_cons_succ, List.set_cons_zero]
      refine isk 7 (some 13) rfl (by kernel_rfl) (by kernel_rfl) (by kernel_rfl) (fun _ _ _ h => h) (by kernel_rfl) (by kernel_rfl) (fun _ => by kernel_rfl) ?_
      simp only [Act.put, List.setIfInBounds_toArray, List.set_cons_succ, List.set_cons_zero]
      refine isk 8 (some 14) rfl (by kernel_rfl) (by kernel_rfl) (by kernel_rfl) (fun _ _ _ h => h) (by kernel_rfl) (by kernel_rfl) (fun _ => by kernel_rfl) ?_
      simp only [Act.put, List.setIfInBounds_toArray, List.set_cons_succ, List.set_cons_zero]
      refine isk 9 (some 15) rfl (by kernel_rfl) (by kernel_rfl) (by kernel_rfl) (fun _ _ _ h => h) (by kernel_rfl) (by kernel_rfl) (fun _ => by kernel_rfl) ?_
      simp only [Act.put, List.setIfInBounds_toArray, List.set_cons_succ, List.set_cons_zero]
      refine isk 10 (some 16) rfl (by kernel_rfl) (by kernel_rfl) (by kernel_rfl) (fun _ _ _ h => h) (by kernel_rfl) (by kernel_rfl) (fun _ => by kernel_rfl) ?_
      simp only [Act.put, List.setIfInBounds_toArray, List.set_cons_succ, List.set_cons_zero]
      refine isk 11 (some 17) rfl (by kernel_rfl) (by kernel_rfl) (by kernel_rfl) (fun _ _ _ h => h) (by kernel_rfl) (by kernel_rfl) (fun _ => by kernel_rfl) ?_
      simp only [Act.put, List.setIfInBounds_toArray, List.set_cons_succ, List.set_cons_zero]
      refine isk 12 (some 18) rfl (by kernel_rfl) (by kernel_rfl) (by kernel_rfl) (fun _ _ _ h => h) (by kernel_rfl) (by kernel_rfl) (fun _ => by kernel_rfl) ?_
      simp only [Act.put, List.setIfInBounds_toArray, List.set_cons_succ, List.set_cons_zero]
      refine isk 13 (some 19) rfl (by kernel_rfl) (by kernel_rfl) (by kernel_rfl) (fun _ _ _ h => h) (by kernel_rfl) (by kernel_rfl) (fun _ => by kernel_rfl) ?_
      simp only [Act.put, List.setIfInBounds_toArray, List.set_cons_succ, List.set_cons_zero]
      refine isk 14 (some 20) rfl (by kernel_rfl) (by kernel_rfl) (by kernel_rfl) (fun _ _ _ h => h) (by kernel_rfl) (by kernel_rfl) (fun _ => by kernel_rfl) ?_
      simp only [Act.put, List.setIfInBounds_toArray, List.set_cons_succ, List.set_cons_zero]
      refine ip 15 (some 21) (.bool false) rfl (by kernel_rfl) (by kernel_rfl) (by kernel_rfl) (fun _ _ _ h => h) (by kernel_rfl) (by kernel_rfl) (fun _ => by kernel_rfl) (fun _ => by kernel_rfl) ?_
      simp only [Act.put, List.setIfInBounds_toArray, List.set_cons_succ, List.set_cons_zero]
      refine wpAnyIn_done (by kernel_rfl) ?_ _
      try simp only [Act.put, List.setIfInBounds_toArray, List.set_cons_succ, List.set_cons_zero]
      gi_wp2
      go_end0
      refine ⟨⟨_, rfl⟩, .inl ⟨pre, ?_, ?_⟩⟩
      · rw [unhide HX, from_nil m _ hnx]; simp
      · exact (unhide HAb) pre wr wr.drew none (unhide HJ) (grown_of_below ((Below.refl _ _).drew)) (fun r e => by cases e)
    | some r =>
      rw [show pv ((some r : Option RR).map (·.b)) = .pointer (some ⟨r.b, 0, none⟩) from rfl]
      obtain ⟨hrm, hrn, hrg⟩ := next_mem hnx
      have HR := hide ((unhide HT).rows r hrm)
      have hfc := from_cons m r T.rows (unhide HT).rise hnx
      have hlv : T.live.length = pre.length + ((T.rows.filter (after r.n)).length + 1) := by
        have := congrArg List.length (unhide HX)
        rw [hfc] at this
        simpa using this
      have hJ1 := (unhide HAb) pre wr wr.drew none (unhide HJ) (grown_of_below ((Below.refl _ _).drew)) (fun r e => by cases e)
      obtain ⟨fn, tmps, asg, bd, hy, hRd⟩ := (unhide HY) pre r.pr wr.drew hJ1 (by omega) (by rw [unhide HX, hfc]; simp)
      have HRd := hide hRd
      have Hy : Hid ((Instr.yield l #[r.k.agg, r.d.agg]).run Tryd.prog wr.drew = .ok (.round l fn tmps asg bd) wr.drew) := hide hy
      have Hfc := hide hfc
      have Hrn := hide (And.intro hrm (And.intro hrn hrg))
      clear hRd hy hJ1 hfc hlv hrm hrn hrg
      gi_wp2
      refine wpIn_region_any (by kernel_rfl) ?_
      refine ip 0 (some 6) (.pointer (some ⟨r.b, 0, none⟩)) rfl (by kernel_rfl) (by kernel_rfl) (by kernel_rfl) (fun _ _ _ h => h) (by kernel_rfl) (by kernel_rfl) (fun _ => by kernel_rfl) (fun _ => by kernel_rfl) ?_
      simp only [Act.put, List.setIfInBounds_toArray, List.set_cons_succ, List.set_cons_zero]
      refine ip 1 (some 7) (.bool true) rfl (by kernel_rfl) (by kernel_rfl) (by kernel_rfl) (fun _ _ _ h => h) (by kernel_rfl) (by kernel_rfl) (fun _ => by kernel_rfl) (fun _ => by kernel_rfl) ?_
      simp only [Act.put, List.setIfInBounds_toArray, List.set_cons_succ, List.set_cons_zero]
      refine ip 2 (some 8) (.bool true) rfl (by kernel_rfl) (by kernel_rfl) (by kernel_rfl) (fun _ _ _ h => h) (by kernel_rfl) (by kernel_rfl) (fun _ => by kernel_rfl) (fun _ => by kernel_rfl) ?_
      simp only [Act.put, List.setIfInBounds_toArray, List.set_cons_succ, List.set_cons_zero]
      refine ip 3 (some 9) (.func (.yield l) #[] #[]) rfl (by kernel_rfl) (by kernel_rfl) (by kernel_rfl) (fun _ _ _ h => h) (by kernel_rfl) (by kernel_rfl) (fun _ => by kernel_rfl) (fun _ => by kernel_rfl) ?_
      simp only [Act.put, List.setIfInBounds_toArray, List.set_cons_succ, List.set_cons_zero]
      refine ip 4 (some 10) (.pointer (some ⟨r.b, 0, none⟩)) rfl (by kernel_rfl) (by kernel_rfl) (by kernel_rfl) (fun _ _ _ h => h) (by kernel_rfl) (by kernel_rfl) (fun _ => by kernel_rfl) (fun _ => by kernel_rfl) ?_
      simp only [Act.put, List.setIfInBounds_toArray, List.set_cons_succ, List.set_cons_zero]
      refine ip 5 (some 11) (.pointer (some ⟨r.b, 0, none⟩)) rfl (by kernel_rfl) (by kernel_rfl) (by kernel_rfl) (fun _ _ _ h => h) (by kernel_rfl) (by kernel_rfl) (fun _ => by kernel_rfl) (fun _ => by kernel_rfl) ?_
      simp only [Act.put, List.setIfInBounds_toArray, List.set_cons_succ, List.set_cons_zero]
      refine ip 6 (some 12) (.pointer (some ⟨r.b, 0, none⟩)) rfl (by kernel_rfl) (by kernel_rfl) (by kernel_rfl) (fun _ _ _ h => h) (by kernel_rfl) (by kernel_rfl) (fun _ => by kernel_rfl) (fun _ => by kernel_rfl) ?_
      simp only [Act.put, List.setIfInBounds_toArray, List.set_cons_succ, List.set_cons_zero]
      refine ip 7 (some 13) (.pointer (some ⟨r.b, 0, none⟩)) rfl (by kernel_rfl) (by kernel_rfl) (by kernel_rfl) (fun _ _ _ h => h) (by kernel_rfl) (by kernel_rfl) (fun _ => by kernel_rfl) (fun _ => by kernel_rfl) ?_
      simp only [Act.put, List.setIfInBounds_toArray, List.set_cons_succ, List.set_cons_zero]
      refine ip 9 (some 15) (.pointer (some ⟨r.b, 0, none⟩)) rfl (by kernel_rfl) (by kernel_rfl) (by kernel_rfl) (fun _ _ _ h => h) (by kernel_rfl) (by kernel_rfl) (fun _ => by kernel_rfl) (fun _ => by kernel_rfl) ?_
      simp only [Act.put, List.setIfInBounds_toArray, List.set_cons_succ, List.set_cons_zero]
      refine ip 10 (some 16) (.pointer (some ⟨r.b, 0, none⟩)) rfl (by kernel_rfl) (by kernel_rfl) (by kernel_rfl) (fun _ _ _ h => h) (by kernel_rfl) (by kernel_rfl) (fun _ => by kernel_rfl) (fun _ => by kernel_rfl) ?_
      simp only [Act.put, List.setIfInBounds_toArray, List.set_cons_succ, List.set_cons_zero]
      refine ip 11 (some 17) (.pointer (some ⟨r.b, 0, none⟩)) rfl (by kernel_rfl) (by kernel_rfl) (by kernel_rfl) (fun _ _ _ h => h) (by kernel_rfl) (by kernel_rfl) (fun _ => by kernel_rfl) (fun _ => by kernel_rfl) ?_
      simp only [Act.put, List.setIfInBounds_toArray, List.set_cons_succ, List.set_cons_zero]
      refine ip 12 (some 18) (.pointer (some ⟨r.b, 2, none⟩)) rfl (by kernel_rfl) (by kernel_rfl) (by kernel_rfl) (fun _ _ _ h => h) (by kernel_rfl) (by kernel_rfl) (fun _ => by kernel_rfl) (fun _ => by kernel_rfl) ?_
      simp only [Act.put, List.setIfInBounds_toArray, List.set_cons_succ, List.set_cons_zero]
      refine wpAnyIn_ready (rs := [8, 13]) (by kernel_rfl) (by simp) (ival 8 (some 14) rfl (by kernel_rfl) (by kernel_rfl) (ex_loadN (vs := r.k.cs) 34 2 row33x siz33 rfl rfl ((Holds.block (unhide HR) rfl)) rfl rfl) ?_ (ival 13 (some 19) rfl (by kernel_rfl) (by kernel_rfl) (ex_loadN (vs := r.d.cs) 40 18 row39 siz39 rfl rfl ((Holds.block (unhide HR) rfl)) rfl rfl) ?_ AllReadyIn.nil))
      · simp only [Act.put, List.setIfInBounds_toArray, List.set_cons_succ, List.set_cons_zero]
        refine wpAnyIn_ready (rs := [13]) (by kernel_rfl) (by simp) (ival 13 (some 19) rfl (by kernel_rfl) (by kernel_rfl) (ex_loadN (vs := r.d.cs) 40 18 row39 siz39 rfl rfl ((Holds.block (unhide HR) rfl)) rfl rfl) ?_ AllReadyIn.nil)
        simp only [Act.put, List.setIfInBounds_toArray, List.set_cons_succ, List.set_cons_zero]
        refine wpAnyIn_ready (rs := [14]) (by kernel_rfl) (by simp) (iround 14 (some 20) rfl (by kernel_rfl) (by kernel_rfl) (Eq.trans (b := (Instr.yield l #[r.k.agg, r.d.agg]).run Tryd.prog wr.drew) (by kernel_rfl) (unhide Hy)) (unhide HRd) ?_ AllReadyIn.nil)
        rintro e W3 (⟨rfl, hJ3, hb3⟩ | ⟨rfl, hJx3⟩)
        · refine ⟨_, rfl, ?_⟩
          simp only [Act.put, List.setIfInBounds_toArray, List.set_cons_succ, List.set_cons_zero]
          refine ip 15 (some 21) (.bool true) rfl (by kernel_rfl) (by kernel_rfl) (by kernel_rfl) (fun _ _ _ h => h) (by kernel_rfl) (by kernel_rfl) (fun _ => by kernel_rfl) (fun _ => by kernel_rfl) ?_
          simp only [Act.put, List.setIfInBounds_toArray, List.set_cons_succ, List.set_cons_zero]
          refine wpAnyIn_done (by kernel_rfl) ?_ _
          try simp only [Act.put, List.setIfInBounds_toArray, List.set_cons_succ, List.set_cons_zero]
          have HT3 := hide ((unhide HT).block (fun b hb => hb3.1.block b (hlt b hb)))
          have hc3 : W3.cell? ⟨Bn, 0, none⟩ = some (.pointer (some ⟨T.t, 0, none⟩)) := (World.cell?_of_block (a := ⟨Bn, 0, none⟩) hb3.2).trans hc
          have HJ3 := hide hJ3
          have Hs3 := hide hb3.1.size
          clear hJ3 hb3
          gi_wp2
          refine wpIn_region_any (by kernel_rfl) ?_
          refine ip 1 (some 23) (.pointer (some ⟨r.b, 0, none⟩)) rfl (by kernel_rfl) (by kernel_rfl) (by kernel_rfl) (fun _ _ _ h => h) (by kernel_rfl) (by kernel_rfl) (fun _ => by kernel_rfl) (fun _ => by kernel_rfl) ?_
          simp only [Act.put, List.setIfInBounds_toArray, List.set_cons_succ, List.set_cons_zero]
          refine ip 2 (some 24) (.pointer (some ⟨r.b, 0, none⟩)) rfl (by kernel_rfl) (by kernel_rfl) (by kernel_rfl) (fun _ _ _ h => h) (by kernel_rfl) (by kernel_rfl) (fun _ => by kernel_rfl) (fun _ => by kernel_rfl) ?_
          simp only [Act.put, List.setIfInBounds_toArray, List.set_cons_succ, List.set_cons_zero]
          refine ip 3 (some 25) (.pointer (some ⟨r.b, 20, none⟩)) rfl (by kernel_rfl) (by kernel_rfl) (by kernel_rfl) (fun _ _ _ h => h) (by kernel_rfl) (by kernel_rfl) (fun _ => by kernel_rfl) (fun _ => by kernel_rfl) ?_
          simp only [Act.put, List.setIfInBounds_toArray, List.set_cons_succ, List.set_cons_zero]
          refine wpAnyIn_ready (rs := [0, 4]) (by kernel_rfl) (by simp) (ival 0 (some 22) rfl (by kernel_rfl) (by kernel_rfl) (ex_loadC (W := W3.drew) 29 Tryd.isAgg29 rfl rfl hc3) ?_ (ival 4 (some 26) rfl (by kernel_rfl) (by kernel_rfl) (ex_load1 69 Tryd.isAgg69 rfl rfl ((Holds.block ((unhide HT3).rows r (unhide Hrn).1) rfl : Holds W3.drew r.b r.cs)) rfl) ?_ AllReadyIn.nil))
          · simp only [Act.put, List.setIfInBounds_toArray, List.set_cons_succ, List.set_cons_zero]
            refine wpAnyIn_ready (rs := [4]) (by kernel_rfl) (by simp) (ival 4 (some 26) rfl (by kernel_rfl) (by kernel_rfl) (ex_load1 69 Tryd.isAgg69 rfl rfl ((Holds.block ((unhide HT3).rows r (unhide Hrn).1) rfl : Holds W3.drew r.b r.cs)) rfl) ?_ AllReadyIn.nil)
            simp only [Act.put, List.setIfInBounds_toArray, List.set_cons_succ, List.set_cons_zero]
            refine wpAnyIn_ready (rs := [5]) (by kernel_rfl) (by simp) (icall 5 (some 27) rfl (by kernel_rfl) (by kernel_rfl) (by kernel_rfl) (next50 T r.n W3.drew (unhide HT3).drew (by omega) (by have := ((unhide HT3).num r (unhide Hrn).1).2; omega)) ?_ AllReadyIn.nil)
            rintro e X ⟨rfl, rfl⟩
            refine ⟨_, rfl, ?_⟩
            simp only [Act.put, List.setIfInBounds_toArray, List.set_cons_succ, List.set_cons_zero]
            refine ip 6 (some 3) (pv ((T.next r.n).map (·.b))) rfl (by kernel_rfl) (by kernel_rfl) (by kernel_rfl) (fun _ _ _ h => h) (by kernel_rfl) (by kernel_rfl) (fun _ => by kernel_rfl) (fun _ => by kernel_rfl) ?_
            simp only [Act.put, List.setIfInBounds_toArray, List.set_cons_succ, List.set_cons_zero]
            refine wpAnyIn_done (by kernel_rfl) ?_ _
            try simp only [Act.put, List.setIfInBounds_toArray, List.set_cons_succ, List.set_cons_zero]
            gi_wp2
            go_roundw
            case rel =>
              refine ⟨pre ++ [r.pr], r.n, rfl, hide ?_, hide ?_, hide (unhide HT3).drew, hc3, hide ?_⟩
              · rw [unhide HX, unhide Hfc]; simp
              · exact (unhide HAb) _ W3 W3.drew none (unhide HJ3) (grown_of_below ((Below.refl _ _).drew)) (fun r e => by cases e)
              · have h1 := unhide HZ; have h2 : wr.heap.size ≤ W3.heap.size := unhide Hs3; have h3 := ((unhide HT3).num r (unhide Hrn).1).2; exact ⟨Nat.le_trans h1.1 h2, Nat.le_trans h1.2.1 h2, h3⟩
            case measure =>
              rw [left_next (unhide HT3), left_row (unhide HT3) (unhide Hrn).1]
              exact Nat.lt_succ_self _
          · simp only [Act.put, List.setIfInBounds_toArray, List.set_cons_succ, List.set_cons_zero]
            refine wpAnyIn_ready (rs := [0]) (by kernel_rfl) (by simp) (ival 0 (some 22) rfl (by kernel_rfl) (by kernel_rfl) (ex_loadC (W := W3.drew) 29 Tryd.isAgg29 rfl rfl hc3) ?_ AllReadyIn.nil)
            simp only [Act.put, List.setIfInBounds_toArray, List.set_cons_succ, List.set_cons_zero]
            refine wpAnyIn_ready (rs := [5]) (by kernel_rfl) (by simp) (icall 5 (some 27) rfl (by kernel_rfl) (by kernel_rfl) (by kernel_rfl) (next50 T r.n W3.drew (unhide HT3).drew (by omega) (by have := ((unhide HT3).num r (unhide Hrn).1).2; omega)) ?_ AllReadyIn.nil)
            rintro e X ⟨rfl, rfl⟩
            refine ⟨_, rfl, ?_⟩
            simp only [Act.put, List.setIfInBounds_toArray, List.set_cons_succ, List.set_cons_zero]
            refine ip 6 (some 3) (pv ((T.next r.n).map (·.b))) rfl (by kernel_rfl) (by kernel_rfl) (by kernel_rfl) (fun _ _ _ h => h) (by kernel_rfl) (by kernel_rfl) (fun _ => by kernel_rfl) (fun _ => by kernel_rfl) ?_
            simp only [Act.put, List.setIfInBounds_toArray, List.set_cons_succ, List.set_cons_zero]
            refine wpAnyIn_done (by kernel_rfl) ?_ _
            try simp only [Act.put, List.setIfInBounds_toArray, List.set_cons_succ, List.set_cons_zero]
            gi_wp2
            go_roundw
            case rel =>
              refine ⟨pre ++ [r.pr], r.n, rfl, hide ?_, hide ?_, hide (unhide HT3).drew, hc3, hide ?_⟩
              · rw [unhide HX, unhide Hfc]; simp
              · exact (unhide HAb) _ W3 W3.drew none (unhide HJ3) (grown_of_below ((Below.refl _ _).drew)) (fun r e => by cases e)
              · have h1 := unhide HZ; have h2 : wr.heap.size ≤ W3.heap.size := unhide Hs3; have h3 := ((unhide HT3).num r (unhide Hrn).1).2; exact ⟨Nat.le_trans h1.1 h2, Nat.le_trans h1.2.1 h2, h3⟩
            case measure =>
              rw [left_next (unhide HT3), left_row (unhide HT3) (unhide Hrn).1]
              exact Nat.lt_succ_self _
        · refine ⟨_, rfl, ?_⟩
          simp only [Act.put, List.setIfInBounds_toArray, List.set_cons_succ, List.set_cons_zero]
          refine ip 15 (some 21) (.bool false) rfl (by kernel_rfl) (by kernel_rfl) (by kernel_rfl) (fun _ _ _ h => h) (by kernel_rfl) (by kernel_rfl) (fun _ => by kernel_rfl) (fun _ => by kernel_rfl) ?_
          simp only [Act.put, List.setIfInBounds_toArray, List.set_cons_succ, List.set_cons_zero]
          refine wpAnyIn_done (by kernel_rfl) ?_ _
          try simp only [Act.put, List.setIfInBounds_toArray, List.set_cons_succ, List.set_cons_zero]
          have HJx := hide hJx3
          clear hJx3
          gi_wp2
          go_end0
          refine ⟨⟨_, rfl⟩, .inr ⟨pre ++ [r.pr], ?_, unhide HJx⟩⟩
          rw [unhide HX, unhide Hfc]
          exact ⟨(T.rows.filter (after r.n)).map RR.pr, by simp⟩
      · simp only [Act.put, List.setIfInBounds_toArray, List.set_cons_succ, List.set_cons_zero]
        refine wpAnyIn_ready (rs := [8]) (by kernel_rfl) (by simp) (ival 8 (some 14) rfl (by kernel_rfl) (by kernel_rfl) (ex_loadN (vs := r.k.cs) 34 2 row33x siz33 rfl rfl ((Holds.block (unhide HR) rfl)) rfl rfl) ?_ AllReadyIn.nil)
        simp only [Act.put, List.setIfInBounds_toArray, List.set_cons_succ, List.set_cons_zero]
        refine wpAnyIn_ready (rs := [14]) (by kernel_rfl) (by simp) (iround 14 (some 20) rfl (by kernel_rfl) (by kernel_rfl) (Eq.trans (b := (Instr.yield l #[r.k.agg, r.d.agg]).run Tryd.prog wr.drew) (by kernel_rfl) (unhide Hy)) (unhide HRd) ?_ AllReadyIn.nil)
        rintro e W3 (⟨rfl, hJ3, hb3⟩ | ⟨rfl, hJx3⟩)
        · refine ⟨_, rfl, ?_⟩
          simp only [Act.put, List.setIfInBounds_toArray, List.set_cons_succ, List.set_cons_zero]
          refine ip 15 (some 21) (.bool true) rfl (by kernel_rfl) (by kernel_rfl) (by kernel_rfl) (fun _ _ _ h => h) (by kernel_rfl) (by kernel_rfl) (fun _ => by kernel_rfl) (fun _ => by kernel_rfl) ?_
          simp only [Act.put, List.setIfInBounds_toArray, List.set_cons_succ, List.set_cons_zero]
          refine wpAnyIn_done (by kernel_rfl) ?_ _
          try simp only [Act.put, List.setIfInBounds_toArray, List.set_cons_succ, List.set_cons_zero]
          have HT3 := hide ((unhide HT).block (fun b hb => hb3.1.block b (hlt b hb)))
          have hc3 : W3.cell? ⟨Bn, 0, none⟩ = some (.pointer (some ⟨T.t, 0, none⟩)) := (World.cell?_of_block (a := ⟨Bn, 0, none⟩) hb3.2).trans hc
          have HJ3 := hide hJ3
          have Hs3 := hide hb3.1.size
          clear hJ3 hb3
          gi_wp2
          refine wpIn_region_any (by kernel_rfl) ?_
          refine ip 1 (some 23) (.pointer (some ⟨r.b, 0, none⟩)) rfl (by kernel_rfl) (by kernel_rfl) (by kernel_rfl) (fun _ _ _ h => h) (by kernel_rfl) (by kernel_rfl) (fun _ => by kernel_rfl) (fun _ => by kernel_rfl) ?_
          simp only [Act.put, List.setIfInBounds_toArray, List.set_cons_succ, List.set_cons_zero]
          refine ip 2 (some 24) (.pointer (some ⟨r.b, 0, none⟩)) rfl (by kernel_rfl) (by kernel_rfl) (by kernel_rfl) (fun _ _ _ h => h) (by kernel_rfl) (by kernel_rfl) (fun _ => by kernel_rfl) (fun _ => by kernel_rfl) ?_
          simp only [Act.put, List.setIfInBounds_toArray, List.set_cons_succ, List.set_cons_zero]
          refine ip 3 (some 25) (.pointer (some ⟨r.b, 20, none⟩)) rfl (by kernel_rfl) (by kernel_rfl) (by kernel_rfl) (fun _ _ _ h => h) (by kernel_rfl) (by kernel_rfl) (fun _ => by kernel_rfl) (fun _ => by kernel_rfl) ?_
          simp only [Act.put, List.setIfInBounds_toArray, List.set_cons_succ, List.set_cons_zero]
          refine wpAnyIn_ready (rs := [0, 4]) (by kernel_rfl) (by simp) (ival 0 (some 22) rfl (by kernel_rfl) (by kernel_rfl) (ex_loadC (W := W3.drew) 29 Tryd.isAgg29 rfl rfl hc3) ?_ (ival 4 (some 26) rfl (by kernel_rfl) (by kernel_rfl) (ex_load1 69 Tryd.isAgg69 rfl rfl ((Holds.block ((unhide HT3).rows r (unhide Hrn).1) rfl : Holds W3.drew r.b r.cs)) rfl) ?_ AllReadyIn.nil))
          · simp only [Act.put, List.setIfInBounds_toArray, List.set_cons_succ, List.set_cons_zero]
            refine wpAnyIn_ready (rs := [4]) (by kernel_rfl) (by simp) (ival 4 (some 26) rfl (by kernel_rfl) (by kernel_rfl) (ex_load1 69 Tryd.isAgg69 rfl rfl ((Holds.block ((unhide HT3).rows r (unhide Hrn).1) rfl : Holds W3.drew r.b r.cs)) rfl) ?_ AllReadyIn.nil)
            simp only [Act.put, List.setIfInBounds_toArray, List.set_cons_succ, List.set_cons_zero]
            refine wpAnyIn_ready (rs := [5]) (by kernel_rfl) (by simp) (icall 5 (some 27) rfl (by kernel_rfl) (by kernel_rfl) (by kernel_rfl) (next50 T r.n W3.drew (unhide HT3).drew (by omega) (by have := ((unhide HT3).num r (unhide Hrn).1).2; omega)) ?_ AllReadyIn.nil)
            rintro e X ⟨rfl, rfl⟩
            refine ⟨_, rfl, ?_⟩
            simp only [Act.put, List.setIfInBounds_toArray, List.set_cons_succ, List.set_cons_zero]
            refine ip 6 (some 3) (pv ((T.next r.n).map (·.b))) rfl (by kernel_rfl) (by kernel_rfl) (by kernel_rfl) (fun _ _ _ h => h) (by kernel_rfl) (by kernel_rfl) (fun _ => by kernel_rfl) (fun _ => by kernel_rfl) ?_
            simp only [Act.put, List.setIfInBounds_toArray, List.set_cons_succ, List.set_cons_zero]
            refine wpAnyIn_done (by kernel_rfl) ?_ _
            try simp only [Act.put, List.setIfInBounds_toArray, List.set_cons_succ, List.set_cons_zero]
            gi_wp2
            go_roundw
            case rel =>
              refine ⟨pre ++ [r.pr], r.n, rfl, hide ?_, hide ?_, hide (unhide HT3).drew, hc3, hide ?_⟩
              · rw [unhide HX, unhide Hfc]; simp
              · exact (unhide HAb) _ W3 W3.drew none (unhide HJ3) (grown_of_below ((Below.refl _ _).drew)) (fun r e => by cases e)
              · have h1 := unhide HZ; have h2 : wr.heap.size ≤ W3.heap.size := unhide Hs3; have h3 := ((unhide HT3).num r (unhide Hrn).1).2; exact ⟨Nat.le_trans h1.1 h2, Nat.le_trans h1.2.1 h2, h3⟩
            case measure =>
              rw [left_next (unhide HT3), left_row (unhide HT3) (unhide Hrn).1]
              exact Nat.lt_succ_self _
          · simp only [Act.put, List.setIfInBounds_toArray, List.set_cons_succ, List.set_cons_zero]
            refine wpAnyIn_ready (rs := [0]) (by kernel_rfl) (by simp) (ival 0 (some 22) rfl (by kernel_rfl) (by kernel_rfl) (ex_loadC (W := W3.drew) 29 Tryd.isAgg29 rfl rfl hc3) ?_ AllReadyIn.nil)
            simp only [Act.put, List.setIfInBounds_toArray, List.set_cons_succ, List.set_cons_zero]
            refine wpAnyIn_ready (rs := [5]) (by kernel_rfl) (by simp) (icall 5 (some 27) rfl (by kernel_rfl) (by kernel_rfl) (by kernel_rfl) (next50 T r.n W3.drew (unhide HT3).drew (by omega) (by have := ((unhide HT3).num r (unhide Hrn).1).2; omega)) ?_ AllReadyIn.nil)
            rintro e X ⟨rfl, rfl⟩
            refine ⟨_, rfl, ?_⟩
            simp only [Act.put, List.setIfInBounds_toArray, List.set_cons_succ, List.set_cons_zero]
            refine ip 6 (some 3) (pv ((T.next r.n).map (·.b))) rfl (by kernel_rfl) (by kernel_rfl) (by kernel_rfl) (fun _ _ _ h => h) (by kernel_rfl) (by kernel_rfl) (fun _ => by kernel_rfl) (fun _ => by kernel_rfl) ?_
            simp only [Act.put, List.setIfInBounds_toArray, List.set_cons_succ, List.set_cons_zero]
            refine wpAnyIn_done (by kernel_rfl) ?_ _
            try simp only [Act.put, List.setIfInBounds_toArray, List.set_cons_succ, List.set_cons_zero]
            gi_wp2
            go_roundw
            case rel =>
              refine ⟨pre ++ [r.pr], r.n, rfl, hide ?_, hide ?_, hide (unhide HT3).drew, hc3, hide ?_⟩
              · rw [unhide HX, unhide Hfc]; simp
              · exact (unhide HAb) _ W3 W3.drew none (unhide HJ3) (grown_of_below ((Below.refl _ _).drew)) (fun r e => by cases e)
              · have h1 := unhide HZ; have h2 : wr.heap.size ≤ W3.heap.size := unhide Hs3; have h3 := ((unhide HT3).num r (unhide Hrn).1).2; exact ⟨Nat.le_trans h1.1 h2, Nat.le_trans h1.2.1 h2, h3⟩
            case measure =>
              rw [left_next (unhide HT3), left_row (unhide HT3) (unhide Hrn).1]
              exact Nat.lt_succ_self _
        · refine ⟨_, rfl, ?_⟩
          simp only [Act.put, List.setIfInBounds_toArray, List.set_cons_succ, List.set_cons_zero]
          refine ip 15 (some 21) (.bool false) rfl (by kernel_rfl) (by kernel_rfl) (by kernel_rfl) (fun _ _ _ h => h) (by kernel_rfl) (by kernel_rfl) (fun _ => by kernel_rfl) (fun _ => by kernel_rfl) ?_
          simp only [Act.put, List.setIfInBounds_toArray, List.set_cons_succ, List.set_cons_zero]
          refine wpAnyIn_done (by kernel_rfl) ?_ _
          try simp only [Act.put, List.setIfInBounds_toArray, List.set_cons_succ, List.set_cons_zero]
          have HJx := hide hJx3
          clear hJx3
          gi_wp2
          go_end0
          refine ⟨⟨_, rfl⟩, .inr ⟨pre ++ [r.pr], ?_, unhide HJx⟩⟩
          rw [unhide HX, unhide Hfc]
          exact ⟨(T.rows.filter (after r.n)).map RR.pr, by simp⟩

/-- Pairs with a key that is one. -/
abbrev GP := { x : KK × DD // goodK x.1 = true }
theorem each_stopsM (T : TT) (n : Nat) (hn : 1 ≤ n) (Bn n₀ : Nat) (w : World) (hT : T.Is w) (hlast : T.last < 1000000) (hlt : ∀ b ∈ T.blocks, b < n₀) (hBs : Bn < w.heap.size) (hBn : w.cell? ⟨Bn, 0, none⟩ = some (.pointer (some ⟨T.t, 0, none⟩))) (hn₀ : n₀ ≤ w.heap.size) :
    SeqStopsK (α := GP) Fence.wide n Tryd.prog 32 #[.pointer (some ⟨Bn, 0, none⟩)] (fun x => encP x.1) (Kb n₀ Bn) (fun ys => ys.map (·.1) = T.live.map RR.pr) (fun pre => pre.map (·.1) <+: T.live.map RR.pr) T.live.length w := by
  intro l J Jx W hW hJ hJx hY h0
  have hTW := hT.on hW
  refine (each_inM n hn l Bn n₀ T (fun pre X => ∃ p : List GP, p.map (·.1) = pre ∧ J p X) (fun pre X => ∃ p : List GP, p.map (·.1) = pre ∧ Jx p X) W ?_ hTW hlast hlt ?_ ((hW.cell (p := ⟨Bn, 0, none⟩) hBs).trans hBn) ⟨[], rfl, h0⟩ (by have := hW.size; omega)).mono ?_
  · intro s X X' row hs hg hr
    obtain ⟨p, hp, hj⟩ := hs
    exact ⟨p, hp, hJ p X X' row hj hg hr⟩
  · rintro pre x X ⟨p, rfl, hj⟩ hlen hx
    have hgd : goodK x.1 = true := by
      obtain ⟨r, hr, rfl⟩ := List.mem_map.1 hx
      exact hT.good r hr
    obtain ⟨fn, tmps, asg, bd, hy, hR⟩ := hY p ⟨x, hgd⟩ X hj (by simpa using hlen)
    refine ⟨fn, tmps, asg, bd, hy, hR.mono ?_⟩
    intro e X' h
    rcases h with ⟨h1, h2, h3⟩ | ⟨h1, h2⟩
    · exact .inl ⟨h1, ⟨p ++ [⟨x, hgd⟩], by simp, h2⟩, h3⟩
    · exact .inr ⟨h1, ⟨p ++ [⟨x, hgd⟩], by simp, h2⟩⟩
  · intro e X' h
    obtain ⟨hv, h⟩ := h
    refine ⟨hv, ?_⟩
    rcases h with ⟨ys, h1, p, h2, h3⟩ | ⟨pre, h1, p, h2, h3⟩
    · exact .inl ⟨p, h2.trans h1, h3⟩
    · exact .inr ⟨p, by (show p.map (·.1) <+: T.live.map RR.pr); rw [h2]; exact h1, h3⟩
end Go.Proofs.YtmemceindohklaaDoor

/-! Pf -/
namespace Go.Proofs.YtmemceindohklaaDoor
open Go Go.Proofs Go.Maps Go.RowKit
set_option linter.unusedSimpArgs false
set_option linter.unusedVariables false
set_option maxHeartbeats 1000000
theorem Holds.obj {W : World} {B : Nat} {cs : List Value} (h : Holds W B cs) (h0 : 0 < cs.length) : ∃ cur e fz, W.heap[B]? = some (.cells cur e fz) := by
  have hc := h.cell 0 (List.getElem?_eq_getElem h0)
  cases hb : W.heap[B]? with
  | none => simp [World.cell?, hb] at hc
  | some o => cases o <;> simp [World.cell?, hb] at hc <;> exact ⟨_, _, _, rfl⟩
theorem own_obj {w : World} {base e s n g : Nat} {v : Value} {xs : List Value} (h : w.ownsRow base e s v n xs) (hg : v.ownBlock = some g) : ∃ cur e fz, w.heap[g]? = some (.cells cur e fz) := by
  rcases h.2 with ⟨rfl, -⟩ | ⟨g', cap, cur, rfl, -, h3, -⟩
  · cases hg
  · have e : g' = g := by simpa [Value.ownBlock] using hg
    subst e
    exact ⟨_, _, _, h3⟩
/-- Blocks that a loop's own marks never are. -/
def Plainly (W : World) (B0 b : Nat) : Prop := b < B0 ∨ ∃ cur e fz, W.heap[b]? = some (.cells cur e fz)
theorem Plainly.same {W W' : World} {B0 b : Nat} {row : Option Nat} (h : Plainly W B0 b) (hb : b < W.heap.size) (hg : W.grownBy W' row) (hr : ∀ r, row = some r → B0 ≤ r ∧ ∃ o : Obj, W.heap[r]? = some o ∧ o.isCells = false) : W'.heap[b]? = W.heap[b]? := by
  refine hg.block b hb (fun e => ?_)
  obtain ⟨h1, o, h2, h3⟩ := hr b e.symm
  rcases h with h | ⟨cur, e, fz, h⟩
  · omega
  · rw [h] at h2
    cases h2
    cases h3
theorem TT.Is.plainly {C : TT} {W : World} {B0 : Nat} (h : C.Is W) (hm : C.m < B0) : ∀ b ∈ C.blocks, Plainly W B0 b := by
  intro b hb
  simp only [TT.blocks, List.mem_cons, List.mem_append, List.mem_map] at hb
  rcases hb with rfl | rfl | hb | ⟨r, hr, rfl⟩
  · exact .inr (h.tab.obj (by simp [TT.cs]))
  · exact .inl hm
  · exact .inr (own_obj h.own (by simpa using hb))
  · exact .inr ((h.rows r hr).obj (by simp [rcs_length]))
theorem Loose.plainly {W : World} {t m : Nat} {rv : Value} {n B0 : Nat} {ps : List Nat} (h : Loose W t m rv n ps) (hm : m < B0) : ∀ b ∈ lb t m rv, Plainly W B0 b := by
  intro b hb
  simp only [lb, List.mem_cons] at hb
  rcases hb with rfl | rfl | hb
  · exact .inr (h.tab.obj (by simp))
  · exact .inl hm
  · exact .inr (own_obj h.own (by simpa using hb))
theorem keeps_fr {W W' : World} {B0 : Nat} {E : List Nat} (hf : Fr W W' E) (hE : ∀ b ∈ E, Plainly W B0 b) : KeepsFrom B0 W W' := by
  refine ⟨hf.size, fun k o hB hk ho => ?_⟩
  have hlt := (Array.getElem?_eq_some_iff.1 hk).1
  rw [hf.block k hlt (fun hm => ?_)]
  · exact hk
  · rcases hE k hm with h | ⟨cur, e, fz, h⟩
    · omega
    · rw [h] at hk
      cases hk
      cases ho
theorem TT.Is.loose {C : TT} {W : World} (h : C.Is W) : Loose W C.t C.m C.rv C.last (C.rows.map (·.b)) := by
  have ap := TT.apart h.nd
  have := h.len
  exact ⟨h.tab, ⟨_, _, h.map⟩, h.own, by simpa using this, ap.tm, fun g hg => ⟨(ap.tv g hg).1, (ap.tv g hg).2.1⟩⟩
def Dst (pre : List GP) : Prop := (pre.map (fun x => x.1.1)).Pairwise (fun a b => a ≠ b)
theorem dst_snoc (pre : List GP) (x : GP) : Dst (pre ++ [x]) ↔ Dst pre ∧ ∀ y ∈ pre, y.1.1 ≠ x.1.1 := by
  unfold Dst
  rw [List.map_append, List.pairwise_append]
  simp
/-- Where a clone may lie. -/
def Okb (n₀ Bn B3 : Nat) (l : List Nat) : Prop := ∀ b ∈ l, n₀ ≤ b ∧ b ≠ Bn ∧ b ≠ B3
/-- A clone in the midst of being made. -/
def CI (ct cm n₀ Bn B3 : Nat) (pre : List GP) (W : World) : Prop :=
  (Dst pre ∧ ∃ C : TT, C.Is W ∧ C.t = ct ∧ C.m = cm ∧ C.live.map RR.pr = pre.map (·.1) ∧ C.last = pre.length ∧ Okb n₀ Bn B3 C.blocks) ∨ (¬ Dst pre ∧ ∃ rv ps, Loose W ct cm rv pre.length ps ∧ Okb n₀ Bn B3 (lb ct cm rv))
theorem CI.own {ct cm n₀ Bn B3 B0 : Nat} (hm : cm < B0) : OwnFrom B0 (CI ct cm n₀ Bn B3) := by
  intro pre W W' row hs hg hr
  rcases hs with ⟨h1, C, h2, h3, h4, h5, h6, h7⟩ | ⟨h1, rv, ps, h2, h3⟩
  · exact .inl ⟨h1, C, h2.block (fun b hb => (h2.plainly (h4 ▸ hm) b hb).same (h2.lt b hb) hg hr), h3, h4, h5, h6, h7⟩
  · exact .inr ⟨h1, rv, ps, h2.block (fun b hb => (h2.plainly hm b hb).same (h2.lt b hb) hg hr), h3⟩
theorem CI.on {ct cm n₀ Bn B3 : Nat} {pre : List GP} {W W' : World} (h : CI ct cm n₀ Bn B3 pre W) (hb : Below W.heap.size W W') : CI ct cm n₀ Bn B3 pre W' := by
  rcases h with ⟨h1, C, h2, h3⟩ | ⟨h1, rv, ps, h2, h3⟩
  · exact .inl ⟨h1, C, h2.on hb, h3⟩
  · exact .inr ⟨h1, rv, ps, h2.block (fun b hb' => hb.block b (h2.lt b hb')), h3⟩
/-- One more. -/
theorem clone_add {ct cm n₀ Bn B3 B0 : Nat} {pre : List GP} {W : World} (x : GP) (h : CI ct cm n₀ Bn B3 pre W) (hm : cm < B0) (hn : pre.length < 100000) (hs : n₀ ≤ W.heap.size) (hB : Bn < W.heap.size ∧ B3 < W.heap.size) : Calls Tryd.prog 28 #[.pointer (some ⟨ct, 0, none⟩), .agg (x.1.1.cs ++ x.1.2.cs).toArray] W fun e W' => e = .returned (.tuple #[]) ∧ CI ct cm n₀ Bn B3 (pre ++ [x]) W' ∧ ∃ E, Fr W W' E ∧ (∀ b ∈ E, Plainly W B0 b) ∧ Okb n₀ Bn B3 E := by
  have hok := good_ok x.2
  by_cases hd : Dst (pre ++ [x])
  · obtain ⟨hd1, hd2⟩ := (dst_snoc pre x).1 hd
    rcases h with ⟨-, C, h2, h3, h4, h5, h6, h7⟩ | ⟨h1, -⟩
    · have hf : C.find x.1.1 = none := by
        unfold TT.find
        rw [List.find?_eq_none]
        intro r hr
        have h8 : r.pr ∈ pre.map (·.1) := by rw [← h5]; exact List.mem_map.2 ⟨r, hr, rfl⟩
        obtain ⟨y, hy, e⟩ := List.mem_map.1 h8
        have := hd2 y hy
        rw [e] at this
        simpa [RR.pr] using this
      rw [← h3]
      refine (add34 C x.1.1 x.1.2 W h2 hok x.2 hf (by omega)).mono ?_
      rintro e W' ⟨rfl, rv, R, h8, h9, h10, h11⟩
      refine ⟨rfl, .inl ⟨hd, _, h8, rfl, h4, ?_, ?_, ?_⟩, C.blocks, h9, h2.plainly (h4 ▸ hm), h7⟩
      · rw [TT.added_live, List.map_append, h5, List.map_append]
        rfl
      · show C.last + 1 = _
        rw [h6, List.length_append]
        rfl
      · intro b hb
        simp only [TT.blocks, TT.added, List.mem_cons, List.mem_append, List.map_append, List.map_cons, List.map_nil, List.mem_singleton] at hb
        have hC : ∀ b, b ∈ C.blocks → n₀ ≤ b ∧ b ≠ Bn ∧ b ≠ B3 := h7
        have hnew : ∀ b, W.heap.size ≤ b → n₀ ≤ b ∧ b ≠ Bn ∧ b ≠ B3 := fun b hb => ⟨by omega, by omega, by omega⟩
        rcases hb with rfl | rfl | hb | hb | hb
        · exact hC _ (by simp [TT.blocks])
        · exact hC _ (by simp [TT.blocks])
        · rcases h11 b (by simpa using hb) with h12 | h12
          · exact hC b (by unfold TT.blocks; rw [h12]; simp)
          · exact hnew b h12
        · exact hC b (by unfold TT.blocks; simp only [List.mem_cons, List.mem_append]; exact .inr (.inr (.inr hb)))
        · simp at hb
          exact hnew b (by omega)
    · exact absurd hd1 h1
  · have hL : ∃ rv ps, Loose W ct cm rv pre.length ps ∧ Okb n₀ Bn B3 (lb ct cm rv) := by
      rcases h with ⟨-, C, h2, h3, h4, h5, h6, h7⟩ | ⟨-, h⟩
      · have := h2.loose
        rw [h3, h4, h6] at this
        refine ⟨_, _, this, fun b hb => h7 b ?_⟩
        simp only [lb, TT.blocks, List.mem_cons, List.mem_append, ← h3, ← h4] at hb ⊢
        rcases hb with h | h | h
        · exact .inl h
        · exact .inr (.inl h)
        · exact .inr (.inr (.inl h))
      · exact h
    obtain ⟨rv, ps, hl, ho⟩ := hL
    refine (add34w ct cm rv pre.length ps x.1.1 x.1.2 W hl hok (by omega)).mono ?_
    rintro e W' ⟨rfl, rv', R, h8, h9, h10⟩
    refine ⟨rfl, .inr ⟨hd, rv', _, by rw [List.length_append]; exact h8, ?_⟩, lb ct cm rv, h9, hl.plainly hm, ho⟩
    intro b hb
    simp only [lb, List.mem_cons] at hb
    rcases hb with rfl | rfl | hb
    · exact ho _ (by simp [lb])
    · exact ho _ (by simp [lb])
    · rcases h10 b (by simpa using hb) with h12 | h12
      · exact ho b (by simp [lb, h12])
      · exact ⟨by omega, by omega, by omega⟩
end Go.Proofs.YtmemceindohklaaDoor

/-! Pg -/
namespace Go.Proofs.YtmemceindohklaaDoor
open Go Go.Proofs Go.Maps Go.RowKit
set_option linter.unusedSimpArgs false
set_option linter.unusedVariables false
set_option maxHeartbeats 1000000
theorem inCall {F : Fence} {n l : Nat} {ops : Array Oper} {rest : List Oper} {Q : Exit → Act → World → Prop} {w : World} {a : Act} {o : Oper} {f : FuncId} {args : Array Value} {R : Ending → World → Prop} (hF : F = Fence.wide.inRound l) (hw : Region.wanted o (yielded ops a.tmps) = true) (hnd : ∀ c, o.op ≠ .defer c) (he : (execOp a.eval o).run Tryd.prog w = .ok (.enter f args) w) (hC : Calls Tryd.prog f args w R)
    (h : ∀ e X, R e X → ∃ V, e = .returned V ∧ wpListIn F n Tryd.prog ops Q rest (a.put o.dst V) X) : wpListIn F n Tryd.prog ops Q (o :: rest) a w := by
  subst hF
  refine BigFrame.wpListIn_want hw fun K hK => ?_
  refine ⟨fun f _ => trivial, ?_⟩
  have e : o.semAt (Fence.wide.inRound l).round a.eval = execOp a.eval o := Oper.semAt_some l _ _ hnd
  rw [e, he, Oper.uponIn_enter]
  refine ⟨(fun h => by cases h), ((callsIn_wide.2 hC).inRound l).mono ?_⟩
  intro e X hR
  obtain ⟨V, rfl, hV⟩ := h e X hR
  exact hK _ _ hV
set_option maxRecDepth 100000 in
theorem clone24 (T : TT) (w : World) (hT : T.Is w) (hlast : T.last < 100000) : Calls Tryd.prog 25 #[.pointer (some ⟨T.t, 0, none⟩)] w fun e w' => ∃ C : TT, e = .returned (.pointer (some ⟨C.t, 0, none⟩)) ∧ C.Is w' ∧ C.live.map RR.pr = T.live.map RR.pr ∧ C.last = T.live.length ∧ (∀ b ∈ C.blocks, w.heap.size ≤ b) ∧ Below w.heap.size w w' := by
  refine (callsIn_wide (n := 4)).1 ?_
  have HN := hide (new10 w)
  have HE := hide (fun X => each41 T X)
  have HT := hide hT
  have hll : T.live.length ≤ 100000 := by have h1 := T.live_le; have h2 := hT.len; omega
  clear hT
  refine callsIn_of_wp_marks Tryd.func25 rfl trivial ?_ rfl
  simp only [Tryd.ntmps25, List.size_toArray, List.length_cons, List.length_nil, Nat.reduceAdd, Nat.reduceSub, Array.replicate_succ, Array.replicate_zero, List.push_toArray, List.append_toArray, List.nil_append, List.cons_append]
  gi_wp2_with fail
  refine ⟨trivial, (callsIn_wide.2 (unhide HN)).mono ?_⟩
  rintro e w1 ⟨C0, rfl, hC0, hr0, hl0, hb0, hB0⟩
  have HC0 := hide (And.intro hC0 (And.intro hr0 (And.intro hl0 (And.intro hb0 hB0))))
  clear hC0 hr0 hl0 hb0 hB0
  gi_wp2_with fail
  refine ⟨trivial, (callsIn_wide.2 ((unhide HE) _)).mono ?_⟩
  rintro e w2 ⟨rfl, rfl⟩
  obtain ⟨hC0, hr0, hl0, hb0, hB0⟩ := unhide HC0
  have hs1 := hB0.size
  have b3 : Boxed (w1.alloc (.cells #[.pointer (some ⟨C0.t, 0, none⟩)] 29)) w1.heap.size 29 (.pointer (some ⟨C0.t, 0, none⟩)) := Boxed.new w1 29 _
  have bn : Boxed ((w1.alloc (.cells #[.pointer (some ⟨C0.t, 0, none⟩)] 29)).alloc (.cells #[.pointer (some ⟨T.t, 0, none⟩)] 29)) (w1.heap.size + 1) 29 (.pointer (some ⟨T.t, 0, none⟩)) := by
    have := Boxed.new (w1.alloc (.cells #[.pointer (some ⟨C0.t, 0, none⟩)] 29)) 29 (.pointer (some ⟨T.t, 0, none⟩))
    rwa [World.size_alloc] at this
  have hBa : Below w1.heap.size w1 ((w1.alloc (.cells #[.pointer (some ⟨C0.t, 0, none⟩)] 29)).alloc (.cells #[.pointer (some ⟨T.t, 0, none⟩)] 29)) := ((Below.refl _ _).alloc (Nat.le_refl _) _).alloc (by simp) _
  have hB1 : Below w.heap.size w ((w1.alloc (.cells #[.pointer (some ⟨C0.t, 0, none⟩)] 29)).alloc (.cells #[.pointer (some ⟨T.t, 0, none⟩)] 29)) := hB0.trans (hBa.mono hs1)
  have hT3 := (unhide HT).on hB1
  have hlt3 := (unhide HT).lt
  have hcm : C0.m < w1.heap.size := hC0.lt C0.m (by simp [TT.blocks])
  have hC3 := hC0.on hBa
  have hokb : Okb w.heap.size (w1.heap.size + 1) w1.heap.size C0.blocks := fun b hb => by
    have h1 := hC0.lt b hb
    have h2 := hb0 b hb
    exact ⟨h2, by omega, by omega⟩
  have hCI0 : CI C0.t C0.m w.heap.size (w1.heap.size + 1) w1.heap.size [] ((w1.alloc (.cells #[.pointer (some ⟨C0.t, 0, none⟩)] 29)).alloc (.cells #[.pointer (some ⟨T.t, 0, none⟩)] 29)) := .inl ⟨List.Pairwise.nil, C0, hC3, rfl, rfl, by unfold TT.live; rw [hr0]; rfl, hl0, hokb⟩
  have HCM := hide hcm
  clear HN HE HC0 hC0 hr0 hl0 hb0 hokb hC3
  gi_wp2
  try simp only [World.size_alloc]
  refine wpIn_rangeFunc_ownH (α := GP) rfl (by omega) (gf := 32) (lb := #[.pointer (some ⟨w1.heap.size + 1, 0, none⟩)]) rfl trivial (enters_of Tryd.func32 (by kernel_rfl) rfl)
    (each_stopsM T 3 (by omega) (w1.heap.size + 1) w.heap.size _ hT3 (by omega) hlt3 (by simp) bn.cell (by simp; omega)) kb_t (kb_b (by simp; omega) (by simp)) (Below.refl _ _) (fun _ => rfl)
    (fun pre W => CI C0.t C0.m w.heap.size (w1.heap.size + 1) w1.heap.size pre W ∧ Boxed W w1.heap.size 29 (.pointer (some ⟨C0.t, 0, none⟩)) ∧ Boxed W (w1.heap.size + 1) 29 (.pointer (some ⟨T.t, 0, none⟩)) ∧ Below w.heap.size w W)
    (fun _ _ _ => False)
    (OwnFrom.and (CI.own (by have := unhide HCM; simp; omega)) (OwnFrom.and (Own.from (boxed_own _ _ _) _) (OwnFrom.and (Own.from (boxed_own _ _ _) _) (ownFrom_below (Nat.le_refl _) (by simp; omega)))))
    (fun _ _ _ _ _ hs _ _ => hs)
    ⟨hCI0, b3.alloc _, bn, hB1⟩
    (fun x a' W => ∃ Bk Bd, a' = { tmps := #[.pointer (some ⟨T.t, 0, none⟩), undef, .pointer none, .pointer (some ⟨w1.heap.size, 0, none⟩), .pointer (some ⟨Bk, 0, none⟩), .pointer (some ⟨Bd, 0, none⟩), .pointer (some ⟨C0.t, 0, none⟩), .pointer (some ⟨T.t, 0, none⟩), .func (.func 32) #[] #[.pointer (some ⟨w1.heap.size + 1, 0, none⟩)], x.1.1.agg, x.1.2.agg, undef, undef, undef, undef, undef, undef], defers := [] } ∧ Holds W Bk x.1.1.cs ∧ Holds W Bd x.1.2.cs)
    (fun x a' _ X Y row hs hg hr => by
      obtain ⟨Bk, Bd, h1, h2, h3⟩ := hs
      exact ⟨Bk, Bd, h1, holds_own h2 (Nat.succ_pos _) hg (fun r e => (hr r e).2), holds_own h3 (Nat.succ_pos _) hg (fun r e => (hr r e).2)⟩)
    ?assign ?body ?done ?stop
  case assign =>
    intro l pre x W K hI hK
    simp only [encP]
    obtain ⟨p1, p2, p3⟩ := new_var W zeroK.cs x.1.1.cs 34 (Nat.le_refl _) rfl (Nat.succ_pos _)
    obtain ⟨X1, hX1⟩ : ∃ X1, X1 = (W.alloc (Obj.cells zeroK.cs.toArray 34)).setCells W.heap.size 0 x.1.1.cs := ⟨_, rfl⟩
    rw [← hX1] at p1 p2 p3
    obtain ⟨q1, q2, q3⟩ := new_var X1 zeroD.cs x.1.2.cs 40 (Nat.le_refl _) rfl (Nat.succ_pos _)
    obtain ⟨X2, hX2⟩ : ∃ X2, X2 = (X1.alloc (Obj.cells zeroD.cs.toArray 40)).setCells X1.heap.size 0 x.1.2.cs := ⟨_, rfl⟩
    rw [← hX2] at q1 q2 q3
    have HK := hide (hK)
    have hb2 : Below W.heap.size W X2 := p1.trans (q1.mono (by omega))
    have hg2 : W.grownBy X2 none := grown_of_below hb2
    have hI2 : Hid _ := hide hI
    clear hK hI
    have ht : ((#[9, 10] : Array Tmp).zip #[x.1.1.agg, x.1.2.agg]).foldl (fun t x => t.setIfInBounds x.1 x.2) (#[.pointer (some ⟨T.t, 0, none⟩), undef, .pointer none, .pointer (some ⟨w1.heap.size, 0, none⟩), undef, undef, .pointer (some ⟨C0.t, 0, none⟩), .pointer (some ⟨T.t, 0, none⟩), .func (.func 32) #[] #[.pointer (some ⟨w1.heap.size + 1, 0, none⟩)], undef, undef, undef, undef, undef, undef, undef, undef] : Array Value) = #[.pointer (some ⟨T.t, 0, none⟩), undef, .pointer none, .pointer (some ⟨w1.heap.size, 0, none⟩), undef, undef, .pointer (some ⟨C0.t, 0, none⟩), .pointer (some ⟨T.t, 0, none⟩), .func (.func 32) #[] #[.pointer (some ⟨w1.heap.size + 1, 0, none⟩)], x.1.1.agg, x.1.2.agg, undef, undef, undef, undef, undef, undef] := by simp
    rw [ht]
    gi_wp2_with (first | go_skip | ((refine inV (fun _ => trivial) (by rfl) (by intro c h; cases h) (ex_alloc33 rfl) ?_); simp only [Act.put, List.setIfInBounds_toArray, List.set_cons_succ, List.set_cons_zero]) | ((refine inS (fun _ => trivial) (by rfl) (by intro c h; cases h) (ex_store (t := 34) (vs := x.1.1.cs) rfl rfl rfl rfl (by simp [KK.cs, Value.oneCell']) siz33 (Holds.new W zeroK.cs 34) (Nat.le_refl _)) ?_); rw [← hX1]; simp only [Act.put, List.setIfInBounds_toArray, List.set_cons_succ, List.set_cons_zero]) | ((refine inV (fun _ => trivial) (by rfl) (by intro c h; cases h) (ex_alloc39 rfl) ?_); simp only [Act.put, List.setIfInBounds_toArray, List.set_cons_succ, List.set_cons_zero]) | ((refine inS (fun _ => trivial) (by rfl) (by intro c h; cases h) (ex_store (t := 40) (vs := x.1.2.cs) rfl rfl rfl rfl (by simp [DD.cs, VV.cs, Value.oneCell']) siz39 (Holds.new X1 zeroD.cs 40) (Nat.le_refl _)) ?_); rw [← hX2]; simp only [Act.put, List.setIfInBounds_toArray, List.set_cons_succ, List.set_cons_zero]))
    obtain ⟨hci, hv, hbn, hB⟩ := unhide hI2
    have hsz := hB.size
    refine (unhide HK) _ X2 (KeepsFrom.of_grownBy hg2 (fun j e => by cases e)) ⟨hb2.mono hsz, hb2.block _ hbn.lt⟩ ⟨hci.on hb2, hv.kept hg2 (by simp), hbn.kept hg2 (by simp), hB.trans (hb2.mono hsz)⟩ ⟨W.heap.size, X1.heap.size, rfl, p2.block (q1.block _ (by omega)), q2⟩
  case body =>
    rintro l pre x a' W hl2 hloop ⟨hci, hv, hbn, hB⟩ ⟨Bk, Bd, rfl, hk, hd⟩ hlen
    have hC := clone_add (B0 := w1.heap.size + 1 + 1) x hci (by have := unhide HCM; omega) (by omega) hB.size ⟨hbn.lt, hv.lt⟩
    have HC := hide hC
    have Hk := hide hk
    have Hd := hide hd
    have Hv := hide hv
    have Hbn := hide hbn
    have HB := hide hB
    clear hk hd hv hbn hB hloop hC hci
    refine wpIn_block ?_
    refine wpIn_region_lit ?_
    refine inV (fun _ => trivial) (by rfl) (by intro c h; cases h) (ex_loadC (B := w1.heap.size) (p := 0) (v := .pointer (some ⟨C0.t, 0, none⟩)) 29 Tryd.isAgg29 rfl rfl (unhide Hv).cell) ?_
    simp only [Act.put, List.setIfInBounds_toArray, List.set_cons_succ, List.set_cons_zero]
    refine inV (fun _ => trivial) (by rfl) (by intro c h; cases h) (ex_loadN (B := Bk) (p := 0) (cs := x.1.1.cs) (vs := x.1.1.cs) 34 2 row33x siz33 rfl rfl (unhide Hk) rfl rfl) ?_
    simp only [Act.put, List.setIfInBounds_toArray, List.set_cons_succ, List.set_cons_zero]
    refine inV (fun _ => trivial) (by rfl) (by intro c h; cases h) (ex_loadN (B := Bd) (p := 0) (cs := x.1.2.cs) (vs := x.1.2.cs) 40 18 row39 siz39 rfl rfl (unhide Hd) rfl rfl) ?_
    simp only [Act.put, List.setIfInBounds_toArray, List.set_cons_succ, List.set_cons_zero]
    refine inV (fun _ => trivial) (by rfl) (by intro c h; cases h) (ex_build58 (k := x.1.1) (d := x.1.2) rfl rfl rfl) ?_
    simp only [Act.put, List.setIfInBounds_toArray, List.set_cons_succ, List.set_cons_zero]
    refine inCall (l := l) rfl (by rfl) (by intro c h; cases h) (by kernel_rfl) (unhide HC) ?_
    rintro e W' ⟨rfl, hci, E, hf, hpl, hok⟩
    refine ⟨_, rfl, ?_⟩
    refine wpListIn_nil ?_
    have hv := unhide Hv
    have hbn := unhide Hbn
    have hB := unhide HB
    have e3 : W'.heap[w1.heap.size]? = W.heap[w1.heap.size]? := hf.block _ hv.lt (fun hm => (hok _ hm).2.2 rfl)
    have en : W'.heap[w1.heap.size + 1]? = W.heap[w1.heap.size + 1]? := hf.block _ hbn.lt (fun hm => (hok _ hm).2.1 rfl)
    have hbel : Below w.heap.size W W' := ⟨hf.os, hf.tape, hf.output, hf.size, fun b hb => hf.block b (Nat.lt_of_lt_of_le hb hB.size) (fun hm => by have := (hok _ hm).1; omega)⟩
    exact ⟨by (rw [World.size_alloc, World.size_alloc]); exact keeps_fr hf hpl, ⟨hbel, en⟩, ⟨hci, e3.trans hv, en.trans hbn, hB.trans hbel⟩⟩
  case done =>
    rintro D ys W hD hys ⟨hci, hv, hbn, hB⟩ hK
    have hc := hv.cell
    have hdst : Dst ys := by
      unfold Dst
      have h1 : (ys.map (·.1)).map (·.1) = (T.live.map RR.pr).map (·.1) := by rw [hys]
      rw [List.map_map, List.map_map] at h1
      have h2 : ys.map (fun x => x.1.1) = T.live.map (·.k) := h1
      rw [h2, List.pairwise_map]
      exact (unhide HT).keys
    rcases hci with ⟨-, C, hC, h3, h4, h5, h6, h7⟩ | ⟨h1, -⟩
    · have hlen : ys.length = T.live.length := by have := congrArg List.length hys; simpa using this
      have HCC := hide (And.intro hC (And.intro h3 (And.intro h4 (And.intro h5 (And.intro h6 (And.intro h7 hlen))))))
      clear hC h3 h4 h5 h6 h7 hlen hdst
      gi_wp2
      obtain ⟨hC, h3, h4, h5, h6, h7, hlen⟩ := unhide HCC
      refine ⟨by simp, .inl ⟨_, _, rfl, run_takeDeferred hK, ?_⟩⟩
      have hbk := belowK_b (w := w) (Nat.le_refl _) W D _ (.deferred none) (by simp at hD; omega) hK rfl rfl
      refine ⟨_, results_tmp rfl _ _ _, C, by rw [h3]; rfl, ?_, h5.trans hys, h6.trans hlen, fun b hb => (h7 b hb).1, hB.trans hbk⟩
      refine hC.block (fun b hb => ?_)
      rcases hC.plainly (B0 := w1.heap.size + 1 + 1) (by have := unhide HCM; omega) b hb with h8 | ⟨cur, e, fz, h8⟩
      · exact World.putObj_heap_other (by simp at hD; omega)
      · exact World.putObj_heap_other (fun e => by rw [e] at h8; rw [hK] at h8; cases h8)
    · exact absurd hdst h1
  case stop =>
    rintro D c pre W _ _ h _
    exact h.elim
end Go.Proofs.YtmemceindohklaaDoor
