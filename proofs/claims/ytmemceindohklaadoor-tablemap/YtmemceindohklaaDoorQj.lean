import Derived.Test.YtmemceindohklaaDoorQh
import Derived.Test.YtmemceindohklaaDoorQi
import Derived.Test.YtmemceindohklaaDoorQe
import Derived.Deep.QuietTactic
import Derived.BigQuiet
import Derived.Deep.LoopGhost

/-! Ml -/
namespace Go.Proofs.YtmemceindohklaaDoor
open Go Go.Proofs Go.Maps Go.RowKit
set_option linter.unusedSimpArgs false
set_option linter.unusedVariables false
set_option maxHeartbeats 2000000
theorem Hq.three (w : World) (E : List Nat) {b0 : Nat} {c0 : List Value} (h0 : Holds w b0 c0) (hc0 : 0 < c0.length) (a b : List Value) (s t : TypeId) (ha : 0 < a.length) (hb : 0 < b.length) : Hq w ((w.alloc (Obj.cells a.toArray s)).alloc (Obj.cells b.toArray t)) E [(b0, c0), (w.heap.size, a), (w.heap.size + 1, b)] := by
  have h := (((Hq.nil w E).add h0 hc0 (fun q hq => by cases hq)).new a s ha).new b t hb
  rw [show (w.alloc (Obj.cells a.toArray s)).heap.size = w.heap.size + 1 by simp] at h
  exact h
theorem ex_build58 {o : Oper} {a : Act} {w : World} {x y : Operand} {k : KK} {d : DD} (ho : o.op = .build 54 #[(0, x), (1, y)]) (hx : a.eval x = .agg k.cs.toArray) (hy : a.eval y = .agg d.cs.toArray) : (execOp a.eval o).run Tryd.prog w = .ok (.value (.agg (k.cs ++ d.cs).toArray)) w := by
  have e : (Instr.build 54 #[(0, .agg k.cs.toArray), (1, .agg d.cs.toArray)]).run Tryd.prog w = .ok (.agg (k.cs ++ d.cs).toArray) w := by kernel_rfl
  unfold execOp
  simp only [ho, List.map_toArray, List.map_cons, List.map_nil, hx, hy]
  simp [e]
theorem tabs_fr {w X : World} {E : List Nat} (h : Lib.Utf8Tabs 4 5 w) (hf : Fr w X E) (hE : ∀ b ∈ E, 6 ≤ b) : Lib.Utf8Tabs 4 5 X := by
  have hs := tabs_size h
  have e2 : X.heap[4]? = w.heap[4]? := hf.block 4 (by omega) (fun hm => by have := hE _ hm; omega)
  have e3 : X.heap[5]? = w.heap[5]? := hf.block 5 (by omega) (fun hm => by have := hE _ hm; omega)
  exact ⟨fun c hc => (World.cell?_of_block (a := ⟨4, c, none⟩) e2).trans (h.1 c hc), fun i hi => ⟨(World.cell?_of_block (a := ⟨5, 2 * i, none⟩) e3).trans (h.2 i hi).1, (World.cell?_of_block (a := ⟨5, 2 * i + 1, none⟩) e3).trans (h.2 i hi).2⟩⟩
theorem added_blocks {T : TT} {w X : World} {rv : Value} {R : Nat} {k : KK} {d : DD} (hg : ∀ g, rv.ownBlock = some g → T.rv.ownBlock = some g ∨ X.heap.size ≤ g) (hR : w.heap.size ≤ R) (hs : w.heap.size ≤ X.heap.size) : ∀ b ∈ (T.added rv R k d).blocks, b ∈ T.blocks ∨ w.heap.size ≤ b := by
  intro b hb
  simp only [TT.blocks, TT.added, List.mem_cons, List.mem_append, List.map_append, List.map_cons, List.map_nil, List.not_mem_nil, or_false] at hb ⊢
  rcases hb with h | h | h | h | h
  · exact .inl (.inl h)
  · exact .inl (.inr (.inl h))
  · rcases hg b (by simpa using h) with h | h
    · exact .inl (.inr (.inr (.inl (by rw [h]; simp))))
    · exact .inr (by omega)
  · exact .inl (.inr (.inr (.inr h)))
  · exact .inr (by omega)
theorem put_some (T : TT) (k : KK) (d : DD) (w : World) (hT : T.Is w) (hU : Lib.Utf8Tabs 4 5 w) (hk : OkK k) (hl : T.last < 1000000) (r : RR) (hf : T.find k = some r) : Calls Tryd.prog 12 #[.pointer (some ⟨T.t, 0, none⟩), k.agg, d.agg] w fun e w' => e = .returned (.int .i64 (0)) ∧ ∃ T' : TT, T'.Is w' ∧ T'.t = T.t ∧ Fr w w' T.blocks ∧ (∀ b ∈ T'.blocks, b ∈ T.blocks ∨ w.heap.size ≤ b) ∧ ((∃ r, T.find k = some r ∧ T' = T.upd r.b d) ∨ (T.find k = none ∧ goodK k = true ∧ ∃ rv R, T' = T.added rv R k d) ∨ (T.find k = none ∧ goodK k = false ∧ T' = T)) := by
  have hr := (T.find_mem hf).1
  have LL := hide (Hq.three w T.blocks (hT.rows r hr) (Nat.succ_pos _) k.cs d.cs 34 40 (Nat.succ_pos _) (Nat.succ_pos _))
  have HT := hide (hT.on (two_below w k.cs.toArray d.cs.toArray 34 40))
  have HH := hide hT
  clear hT
  rw [show k.agg = .agg k.cs.toArray from rfl, show d.agg = .agg d.cs.toArray from rfl]
  go_enter Tryd.func12, Tryd.ntmps12
  go_wp2
  refine wp_region_held_drew (P := Tryd.prog) (S := fun X => T.Is X ∧ Hq w X T.blocks [(r.b, r.cs), (w.heap.size, k.cs), (w.heap.size + 1, d.cs)]) (by kernel_rfl) ⟨(unhide HT).drew, (unhide LL).drew⟩ (fun hS0 => ?_)
  refine gsem 0 (some 11) (.pointer (some ⟨T.t, 0, none⟩)) rfl (by kernel_rfl) (by kernel_rfl) (by kernel_rfl) (fun _ _ _ h => h) (by kernel_rfl) (by kernel_rfl) (fun _ _ => by kernel_rfl) hS0 ?_
  simp only [Act.put, List.setIfInBounds_toArray, List.set_cons_succ, List.set_cons_zero]
  refine gsem 1 (some 12) (.pointer (some ⟨T.t, 0, none⟩)) rfl (by kernel_rfl) (by kernel_rfl) (by kernel_rfl) (fun _ _ _ h => h) (by kernel_rfl) (by kernel_rfl) (fun _ _ => by kernel_rfl) hS0 ?_
  simp only [Act.put, List.setIfInBounds_toArray, List.set_cons_succ, List.set_cons_zero]
  refine gsem 2 (some 13) (.pointer (some ⟨T.t, 0, none⟩)) rfl (by kernel_rfl) (by kernel_rfl) (by kernel_rfl) (fun _ _ _ h => h) (by kernel_rfl) (by kernel_rfl) (fun _ _ => by kernel_rfl) hS0 ?_
  simp only [Act.put, List.setIfInBounds_toArray, List.set_cons_succ, List.set_cons_zero]
  refine gsem 3 (some 14) (.map (some T.m)) rfl (by kernel_rfl) (by kernel_rfl) (by kernel_rfl) (fun _ _ _ h => h) (by kernel_rfl) (by kernel_rfl) (fun X hX => ex_load1 67 Tryd.isAgg67 rfl rfl (hX.1.tab) rfl) hS0 ?_
  simp only [Act.put, List.setIfInBounds_toArray, List.set_cons_succ, List.set_cons_zero]
  refine gsem 4 (some 15) (k.agg) rfl (by kernel_rfl) (by kernel_rfl) (by kernel_rfl) (fun _ _ _ h => h) (by kernel_rfl) (by kernel_rfl) (fun X hX => ex_loadN (vs := k.cs) 34 2 row33x siz33 rfl rfl (hX.2.get 1 rfl) rfl rfl) hS0 ?_
  simp only [Act.put, List.setIfInBounds_toArray, List.set_cons_succ, List.set_cons_zero]
  refine gsem 5 (some 16) (.tuple #[pv (some r.b), .bool true]) rfl (by kernel_rfl) (by kernel_rfl) (by kernel_rfl) (fun _ _ _ h => h) (by kernel_rfl) (by kernel_rfl) (fun X hX => ex_look (r := some r.b) rfl rfl rfl hX.1.map hk (by rw [hf]; rfl)) hS0 ?_
  simp only [Act.put, List.setIfInBounds_toArray, List.set_cons_succ, List.set_cons_zero]
  refine gsem 6 (some 10) (.tuple #[pv (some r.b), .bool true]) rfl (by kernel_rfl) (by kernel_rfl) (by kernel_rfl) (fun _ _ _ h => h) (by kernel_rfl) (by kernel_rfl) (fun _ _ => by kernel_rfl) hS0 ?_
  simp only [Act.put, List.setIfInBounds_toArray, List.set_cons_succ, List.set_cons_zero]
  refine gsem 7 (some 17) (pv (some r.b)) rfl (by kernel_rfl) (by kernel_rfl) (by kernel_rfl) (fun _ _ _ h => h) (by kernel_rfl) (by kernel_rfl) (fun _ _ => by kernel_rfl) hS0 ?_
  simp only [Act.put, List.setIfInBounds_toArray, List.set_cons_succ, List.set_cons_zero]
  refine gsem 9 (some 7) (pv (some r.b)) rfl (by kernel_rfl) (by kernel_rfl) (by kernel_rfl) (fun _ _ _ h => h) (by kernel_rfl) (by kernel_rfl) (fun _ _ => by kernel_rfl) hS0 ?_
  simp only [Act.put, List.setIfInBounds_toArray, List.set_cons_succ, List.set_cons_zero]
  refine gsem 8 (some 18) (.bool true) rfl (by kernel_rfl) (by kernel_rfl) (by kernel_rfl) (fun _ _ _ h => h) (by kernel_rfl) (by kernel_rfl) (fun _ _ => by kernel_rfl) hS0 ?_
  simp only [Act.put, List.setIfInBounds_toArray, List.set_cons_succ, List.set_cons_zero]
  refine gsem 10 (some 8) (.bool true) rfl (by kernel_rfl) (by kernel_rfl) (by kernel_rfl) (fun _ _ _ h => h) (by kernel_rfl) (by kernel_rfl) (fun _ _ => by kernel_rfl) hS0 ?_
  simp only [Act.put, List.setIfInBounds_toArray, List.set_cons_succ, List.set_cons_zero]
  refine wpAnyH_done (by kernel_rfl) ?_ _
  try simp only [Act.put, List.setIfInBounds_toArray, List.set_cons_succ, List.set_cons_zero]
  replace HT := hide hS0.1
  replace LL := hide hS0.2
  clear hS0
  unfold pv
  have hrb := hide (TT.Part.mem (T := T) (.inr (.inr (List.mem_map.2 ⟨r, hr, rfl⟩))))
  go_wp2_with (first | go_skip | ((refine rd (by rfl) (ex_loadN (vs := d.cs) 40 18 row39 siz39 rfl rfl ((unhide LL).get 2 rfl) rfl rfl) ?_); simp only [Act.put, List.setIfInBounds_toArray, List.set_cons_succ, List.set_cons_zero]) | ((refine st (vs := d.cs) 0 40 (by rfl) rfl rfl rfl rfl (by simp [DD.cs, VV.cs, Value.oneCell']) siz39 (unhide LL) rfl (by simp [dcs_length, rcs_length]) (Or.inl (unhide hrb)) ?_); intro w3 L3 hf3 hs3; replace LL := hide L3; have HF := hide hf3; clear L3 hf3 hs3; simp only [Act.put, List.setIfInBounds_toArray, List.set_cons_succ, List.set_cons_zero]))
  go_ret
  exact ⟨rfl, T.upd r.b d, (unhide HT).upd hr (unhide HF) ((unhide LL).get 0 rfl), rfl, (unhide LL).fr, (fun b hb => Or.inl (T.upd_blocks r.b d ▸ hb)), Or.inl ⟨r, hf, rfl⟩⟩
theorem put_good (T : TT) (k : KK) (d : DD) (w : World) (hT : T.Is w) (hU : Lib.Utf8Tabs 4 5 w) (hk : OkK k) (hl : T.last < 1000000) (hTT : Hid (∀ b ∈ T.blocks, 6 ≤ b)) (hf : T.find k = none) (hg : goodK k = true) : Calls Tryd.prog 12 #[.pointer (some ⟨T.t, 0, none⟩), k.agg, d.agg] w fun e w' => e = .returned (.int .i64 (0)) ∧ ∃ T' : TT, T'.Is w' ∧ T'.t = T.t ∧ Fr w w' T.blocks ∧ (∀ b ∈ T'.blocks, b ∈ T.blocks ∨ w.heap.size ≤ b) ∧ ((∃ r, T.find k = some r ∧ T' = T.upd r.b d) ∨ (T.find k = none ∧ goodK k = true ∧ ∃ rv R, T' = T.added rv R k d) ∨ (T.find k = none ∧ goodK k = false ∧ T' = T)) := by
  have HU := hide hU
  clear hU
  have LL := hide (Hq.two w T.blocks k.cs d.cs 34 40 (Nat.succ_pos _) (Nat.succ_pos _))
  have HT := hide (hT.on (two_below w k.cs.toArray d.cs.toArray 34 40))
  have HH := hide hT
  clear hT
  rw [show k.agg = .agg k.cs.toArray from rfl, show d.agg = .agg d.cs.toArray from rfl]
  go_enter Tryd.func12, Tryd.ntmps12
  go_wp2
  refine wp_region_held_drew (P := Tryd.prog) (S := fun X => T.Is X ∧ Hq w X T.blocks [(w.heap.size, k.cs), (w.heap.size + 1, d.cs)]) (by kernel_rfl) ⟨(unhide HT).drew, (unhide LL).drew⟩ (fun hS0 => ?_)
  refine gsem 0 (some 11) (.pointer (some ⟨T.t, 0, none⟩)) rfl (by kernel_rfl) (by kernel_rfl) (by kernel_rfl) (fun _ _ _ h => h) (by kernel_rfl) (by kernel_rfl) (fun _ _ => by kernel_rfl) hS0 ?_
  simp only [Act.put, List.setIfInBounds_toArray, List.set_cons_succ, List.set_cons_zero]
  refine gsem 1 (some 12) (.pointer (some ⟨T.t, 0, none⟩)) rfl (by kernel_rfl) (by kernel_rfl) (by kernel_rfl) (fun _ _ _ h => h) (by kernel_rfl) (by kernel_rfl) (fun _ _ => by kernel_rfl) hS0 ?_
  simp only [Act.put, List.setIfInBounds_toArray, List.set_cons_succ, List.set_cons_zero]
  refine gsem 2 (some 13) (.pointer (some ⟨T.t, 0, none⟩)) rfl (by kernel_rfl) (by kernel_rfl) (by kernel_rfl) (fun _ _ _ h => h) (by kernel_rfl) (by kernel_rfl) (fun _ _ => by kernel_rfl) hS0 ?_
  simp only [Act.put, List.setIfInBounds_toArray, List.set_cons_succ, List.set_cons_zero]
  refine gsem 3 (some 14) (.map (some T.m)) rfl (by kernel_rfl) (by kernel_rfl) (by kernel_rfl) (fun _ _ _ h => h) (by kernel_rfl) (by kernel_rfl) (fun X hX => ex_load1 67 Tryd.isAgg67 rfl rfl (hX.1.tab) rfl) hS0 ?_
  simp only [Act.put, List.setIfInBounds_toArray, List.set_cons_succ, List.set_cons_zero]
  refine gsem 4 (some 15) (k.agg) rfl (by kernel_rfl) (by kernel_rfl) (by kernel_rfl) (fun _ _ _ h => h) (by kernel_rfl) (by kernel_rfl) (fun X hX => ex_loadN (vs := k.cs) 34 2 row33x siz33 rfl rfl (hX.2.get 0 rfl) rfl rfl) hS0 ?_
  simp only [Act.put, List.setIfInBounds_toArray, List.set_cons_succ, List.set_cons_zero]
  refine gsem 5 (some 16) (.tuple #[pv (none), .bool false]) rfl (by kernel_rfl) (by kernel_rfl) (by kernel_rfl) (fun _ _ _ h => h) (by kernel_rfl) (by kernel_rfl) (fun X hX => ex_look (r := none) rfl rfl rfl hX.1.map hk (by rw [hf]; rfl)) hS0 ?_
  simp only [Act.put, List.setIfInBounds_toArray, List.set_cons_succ, List.set_cons_zero]
  refine gsem 6 (some 10) (.tuple #[pv (none), .bool false]) rfl (by kernel_rfl) (by kernel_rfl) (by kernel_rfl) (fun _ _ _ h => h) (by kernel_rfl) (by kernel_rfl) (fun _ _ => by kernel_rfl) hS0 ?_
  simp only [Act.put, List.setIfInBounds_toArray, List.set_cons_succ, List.set_cons_zero]
  refine gsem 7 (some 17) (pv (none)) rfl (by kernel_rfl) (by kernel_rfl) (by kernel_rfl) (fun _ _ _ h => h) (by kernel_rfl) (by kernel_rfl) (fun _ _ => by kernel_rfl) hS0 ?_
  simp only [Act.put, List.setIfInBounds_toArray, List.set_cons_succ, List.set_cons_zero]
  refine gsem 9 (some 7) (pv (none)) rfl (by kernel_rfl) (by kernel_rfl) (by kernel_rfl) (fun _ _ _ h => h) (by kernel_rfl) (by kernel_rfl) (fun _ _ => by kernel_rfl) hS0 ?_
  simp only [Act.put, List.setIfInBounds_toArray, List.set_cons_succ, List.set_cons_zero]
  refine gsem 8 (some 18) (.bool false) rfl (by kernel_rfl) (by kernel_rfl) (by kernel_rfl) (fun _ _ _ h => h) (by kernel_rfl) (by kernel_rfl) (fun _ _ => by kernel_rfl) hS0 ?_
  simp only [Act.put, List.setIfInBounds_toArray, List.set_cons_succ, List.set_cons_zero]
  refine gsem 10 (some 8) (.bool false) rfl (by kernel_rfl) (by kernel_rfl) (by kernel_rfl) (fun _ _ _ h => h) (by kernel_rfl) (by kernel_rfl) (fun _ _ => by kernel_rfl) hS0 ?_
  simp only [Act.put, List.setIfInBounds_toArray, List.set_cons_succ, List.set_cons_zero]
  refine wpAnyH_done (by kernel_rfl) ?_ _
  try simp only [Act.put, List.setIfInBounds_toArray, List.set_cons_succ, List.set_cons_zero]
  replace HT := hide hS0.1
  replace LL := hide hS0.2
  clear hS0
  unfold pv
  go_wp2_with (first | go_skip | ((refine rd (by rfl) (ex_loadN (vs := k.cs) 34 2 row33x siz33 rfl rfl ((unhide LL).get 0 rfl) rfl rfl) ?_); simp only [Act.put, List.setIfInBounds_toArray, List.set_cons_succ, List.set_cons_zero]))
  refine (check12 k.s k.n _ (tabs_fr (unhide HU) (unhide LL).fr (unhide hTT))).mono ?_
  rintro _ w4 ⟨rfl, hb⟩
  rw [show (kVal k.s k.n).good = goodK k from rfl, hg]
  replace HT := hide ((unhide HT).on hb)
  replace LL := hide ((unhide LL).on hb)
  clear hb
  simp only [if_true]
  go_wp2_with (first | go_skip | ((refine rd (by rfl) (ex_loadN (vs := k.cs) 34 2 row33x siz33 rfl rfl ((unhide LL).get 0 rfl) rfl rfl) ?_); simp only [Act.put, List.setIfInBounds_toArray, List.set_cons_succ, List.set_cons_zero]) | ((refine rd (by rfl) (ex_loadN (vs := d.cs) 40 18 row39 siz39 rfl rfl ((unhide LL).get 1 rfl) rfl rfl) ?_); simp only [Act.put, List.setIfInBounds_toArray, List.set_cons_succ, List.set_cons_zero]) | ((refine rd (by rfl) (ex_build58 rfl rfl rfl) ?_); simp only [Act.put, List.setIfInBounds_toArray, List.set_cons_succ, List.set_cons_zero]))
  refine (add34 T k d _ (unhide HT) hk hg hf hl).mono ?_
  rintro _ w5 ⟨rfl, rv, R, hT5, hF5, hR5, hg5⟩
  have HF := hide ((unhide LL).fr.trans hF5 (fun b hb => Or.inl hb))
  have hs := (unhide LL).fr.size
  have H5 := hide hT5
  have H6 := hide hg5
  have H7 := hide (Nat.le_trans hs hR5)
  have H8 := hide hs
  clear hT5 hF5 hg5 hR5 hs
  go_wp2
  go_ret
  refine ⟨rfl, _, unhide H5, rfl, unhide HF, ?_, Or.inr (Or.inl ⟨hf, hg, rv, R, rfl⟩)⟩
  exact added_blocks (unhide H6) (unhide H7) (unhide H8)
theorem put_bad (T : TT) (k : KK) (d : DD) (w : World) (hT : T.Is w) (hU : Lib.Utf8Tabs 4 5 w) (hk : OkK k) (hl : T.last < 1000000) (hTT : Hid (∀ b ∈ T.blocks, 6 ≤ b)) (hf : T.find k = none) (hg : goodK k = false) : Calls Tryd.prog 12 #[.pointer (some ⟨T.t, 0, none⟩), k.agg, d.agg] w fun e w' => e = .returned (.int .i64 (5)) ∧ ∃ T' : TT, T'.Is w' ∧ T'.t = T.t ∧ Fr w w' T.blocks ∧ (∀ b ∈ T'.blocks, b ∈ T.blocks ∨ w.heap.size ≤ b) ∧ ((∃ r, T.find k = some r ∧ T' = T.upd r.b d) ∨ (T.find k = none ∧ goodK k = true ∧ ∃ rv R, T' = T.added rv R k d) ∨ (T.find k = none ∧ goodK k = false ∧ T' = T)) := by
  have HU := hide hU
  clear hU
  have LL := hide (Hq.two w T.blocks k.cs d.cs 34 40 (Nat.succ_pos _) (Nat.succ_pos _))
  have HT := hide (hT.on (two_below w k.cs.toArray d.cs.toArray 34 40))
  have HH := hide hT
  clear hT
  rw [show k.agg = .agg k.cs.toArray from rfl, show d.agg = .agg d.cs.toArray from rfl]
  go_enter Tryd.func12, Tryd.ntmps12
  go_wp2
  refine wp_region_held_drew (P := Tryd.prog) (S := fun X => T.Is X ∧ Hq w X T.blocks [(w.heap.size, k.cs), (w.heap.size + 1, d.cs)]) (by kernel_rfl) ⟨(unhide HT).drew, (unhide LL).drew⟩ (fun hS0 => ?_)
  refine gsem 0 (some 11) (.pointer (some ⟨T.t, 0, none⟩)) rfl (by kernel_rfl) (by kernel_rfl) (by kernel_rfl) (fun _ _ _ h => h) (by kernel_rfl) (by kernel_rfl) (fun _ _ => by kernel_rfl) hS0 ?_
  simp only [Act.put, List.setIfInBounds_toArray, List.set_cons_succ, List.set_cons_zero]
  refine gsem 1 (some 12) (.pointer (some ⟨T.t, 0, none⟩)) rfl (by kernel_rfl) (by kernel_rfl) (by kernel_rfl) (fun _ _ _ h => h) (by kernel_rfl) (by kernel_rfl) (fun _ _ => by kernel_rfl) hS0 ?_
  simp only [Act.put, List.setIfInBounds_toArray, List.set_cons_succ, List.set_cons_zero]
  refine gsem 2 (some 13) (.pointer (some ⟨T.t, 0, none⟩)) rfl (by kernel_rfl) (by kernel_rfl) (by kernel_rfl) (fun _ _ _ h => h) (by kernel_rfl) (by kernel_rfl) (fun _ _ => by kernel_rfl) hS0 ?_
  simp only [Act.put, List.setIfInBounds_toArray, List.set_cons_succ, List.set_cons_zero]
  refine gsem 3 (some 14) (.map (some T.m)) rfl (by kernel_rfl) (by kernel_rfl) (by kernel_rfl) (fun _ _ _ h => h) (by kernel_rfl) (by kernel_rfl) (fun X hX => ex_load1 67 Tryd.isAgg67 rfl rfl (hX.1.tab) rfl) hS0 ?_
  simp only [Act.put, List.setIfInBounds_toArray, List.set_cons_succ, List.set_cons_zero]
  refine gsem 4 (some 15) (k.agg) rfl (by kernel_rfl) (by kernel_rfl) (by kernel_rfl) (fun _ _ _ h => h) (by kernel_rfl) (by kernel_rfl) (fun X hX => ex_loadN (vs := k.cs) 34 2 row33x siz33 rfl rfl (hX.2.get 0 rfl) rfl rfl) hS0 ?_
  simp only [Act.put, List.setIfInBounds_toArray, List.set_cons_succ, List.set_cons_zero]
  refine gsem 5 (some 16) (.tuple #[pv (none), .bool false]) rfl (by kernel_rfl) (by kernel_rfl) (by kernel_rfl) (fun _ _ _ h => h) (by kernel_rfl) (by kernel_rfl) (fun X hX => ex_look (r := none) rfl rfl rfl hX.1.map hk (by rw [hf]; rfl)) hS0 ?_
  simp only [Act.put, List.setIfInBounds_toArray, List.set_cons_succ, List.set_cons_zero]
  refine gsem 6 (some 10) (.tuple #[pv (none), .bool false]) rfl (by kernel_rfl) (by kernel_rfl) (by kernel_rfl) (fun _ _ _ h => h) (by kernel_rfl) (by kernel_rfl) (fun _ _ => by kernel_rfl) hS0 ?_
  simp only [Act.put, List.setIfInBounds_toArray, List.set_cons_succ, List.set_cons_zero]
  refine gsem 7 (some 17) (pv (none)) rfl (by kernel_rfl) (by kernel_rfl) (by kernel_rfl) (fun _ _ _ h => h) (by kernel_rfl) (by kernel_rfl) (fun _ _ => by kernel_rfl) hS0 ?_
  simp only [Act.put, List.setIfInBounds_toArray, List.set_cons_succ, List.set_cons_zero]
  refine gsem 9 (some 7) (pv (none)) rfl (by kernel_rfl) (by kernel_rfl) (by kernel_rfl) (fun _ _ _ h => h) (by kernel_rfl) (by kernel_rfl) (fun _ _ => by kernel_rfl) hS0 ?_
  simp only [Act.put, List.setIfInBounds_toArray, List.set_cons_succ, List.set_cons_zero]
  refine gsem 8 (some 18) (.bool false) rfl (by kernel_rfl) (by kernel_rfl) (by kernel_rfl) (fun _ _ _ h => h) (by kernel_rfl) (by kernel_rfl) (fun _ _ => by kernel_rfl) hS0 ?_
  simp only [Act.put, List.setIfInBounds_toArray, List.set_cons_succ, List.set_cons_zero]
  refine gsem 10 (some 8) (.bool false) rfl (by kernel_rfl) (by kernel_rfl) (by kernel_rfl) (fun _ _ _ h => h) (by kernel_rfl) (by kernel_rfl) (fun _ _ => by kernel_rfl) hS0 ?_
  simp only [Act.put, List.setIfInBounds_toArray, List.set_cons_succ, List.set_cons_zero]
  refine wpAnyH_done (by kernel_rfl) ?_ _
  try simp only [Act.put, List.setIfInBounds_toArray, List.set_cons_succ, List.set_cons_zero]
  replace HT := hide hS0.1
  replace LL := hide hS0.2
  clear hS0
  unfold pv
  go_wp2_with (first | go_skip | ((refine rd (by rfl) (ex_loadN (vs := k.cs) 34 2 row33x siz33 rfl rfl ((unhide LL).get 0 rfl) rfl rfl) ?_); simp only [Act.put, List.setIfInBounds_toArray, List.set_cons_succ, List.set_cons_zero]))
  refine (check12 k.s k.n _ (tabs_fr (unhide HU) (unhide LL).fr (unhide hTT))).mono ?_
  rintro _ w4 ⟨rfl, hb⟩
  rw [show (kVal k.s k.n).good = goodK k from rfl, hg]
  replace HT := hide ((unhide HT).on hb)
  replace LL := hide ((unhide LL).on hb)
  clear hb
  simp only [Bool.false_eq_true, if_false]
  go_wp2_with (first | go_skip | ((refine rd (by rfl) (ex_loadN (vs := k.cs) 34 2 row33x siz33 rfl rfl ((unhide LL).get 0 rfl) rfl rfl) ?_); simp only [Act.put, List.setIfInBounds_toArray, List.set_cons_succ, List.set_cons_zero]) | ((refine rd (by rfl) (ex_loadN (vs := d.cs) 40 18 row39 siz39 rfl rfl ((unhide LL).get 1 rfl) rfl rfl) ?_); simp only [Act.put, List.setIfInBounds_toArray, List.set_cons_succ, List.set_cons_zero]) | ((refine rd (by rfl) (ex_build58 rfl rfl rfl) ?_); simp only [Act.put, List.setIfInBounds_toArray, List.set_cons_succ, List.set_cons_zero]))
  go_ret
  exact ⟨rfl, T, unhide HT, rfl, (unhide LL).fr, (fun b hb => Or.inl hb), Or.inr (Or.inr ⟨hf, hg, rfl⟩)⟩
theorem put12 (T : TT) (k : KK) (d : DD) (w : World) (hT : T.Is w) (hU : Lib.Utf8Tabs 4 5 w) (hk : OkK k) (hl : T.last < 1000000) (hTT : ∀ b ∈ T.blocks, 6 ≤ b) : Calls Tryd.prog 12 #[.pointer (some ⟨T.t, 0, none⟩), k.agg, d.agg] w fun e w' => e = .returned (.int .i64 (if goodK k then 0 else 5)) ∧ ∃ T' : TT, T'.Is w' ∧ T'.t = T.t ∧ Fr w w' T.blocks ∧ (∀ b ∈ T'.blocks, b ∈ T.blocks ∨ w.heap.size ≤ b) ∧ ((∃ r, T.find k = some r ∧ T' = T.upd r.b d) ∨ (T.find k = none ∧ goodK k = true ∧ ∃ rv R, T' = T.added rv R k d) ∨ (T.find k = none ∧ goodK k = false ∧ T' = T)) := by
  by_cases hx : T.find k = none
  rotate_left
  · obtain ⟨r, hf⟩ := Option.ne_none_iff_exists'.1 hx
    have hg : goodK k = true := by
      have h1 := T.find_mem hf
      rw [← h1.2.2]
      exact hT.good r (by simp [TT.live, h1.1, h1.2.1])
    rw [if_pos hg]
    have := put_some T k d w hT hU hk hl r hf
    exact this
  · have hf := hx
    by_cases hg : goodK k = true
    · rw [if_pos hg]
      have := put_good T k d w hT hU hk hl (hide hTT) hf hg
      exact this
    · rw [if_neg hg]
      have := put_bad T k d w hT hU hk hl (hide hTT) hf (by simpa using hg)
      exact this
end Go.Proofs.YtmemceindohklaaDoor

/-! Ms -/
namespace Go.Proofs.YtmemceindohklaaDoor
open Go Go.Proofs Go.Maps Go.RowKit
set_option linter.unusedSimpArgs false
set_option linter.unusedVariables false
set_option maxHeartbeats 1000000
attribute [local go_sem] bits_run run_store_float
theorem below_dn {a w : World} {B : Nat} (h : Below B a w) (n : Nat) : Below B a (w.drewN n) := ⟨h.os, h.tape, h.output, h.size, h.block⟩
set_option maxRecDepth 100000 in
theorem eq40 (v : VV) (w : World) : Calls Tryd.prog 34 #[v.agg, v.agg] w fun e w' => e = .returned (.bool true) ∧ Below w.heap.size w w' := by
  obtain ⟨k, b, x, s, i⟩ := v
  unfold VV.agg
  dsimp only
  go_enter Tryd.func34, Tryd.ntmps34
  go_wp2
  go_quiet (fail)
  go_wp2
  all_goals
    go_ret
    refine ⟨?_, below_dn (two_below w _ _ _ _) _⟩
    simp [*]
theorem row36 : ∃ d, Tryd.prog.underlying 37 = some d ∧ d.isRow = true := ⟨_, Tryd.underlying37, rfl⟩
theorem siz36 : (Tryd.prog.info? 37).map (·.size) = some 5 := by kernel_rfl
set_option maxRecDepth 100000 in
theorem sameDesc21 (d : DD) (w : World) : Calls Tryd.prog 19 #[d.agg, d.agg] w fun e w' => e = .returned (.bool true) ∧ Below w.heap.size w w' := by
  have LL := hide (Hq.two w [] d.cs d.cs 40 40 (Nat.succ_pos _) (Nat.succ_pos _))
  have E1 := hide (fun X => eq40 d.v X)
  have E2 := hide (fun X => eq40 d.g X)
  have E3 := hide (fun X => eq40 d.s X)
  rw [show d.agg = .agg d.cs.toArray from rfl]
  go_enter Tryd.func19, Tryd.ntmps19
  go_wp2_with (first | go_skip | ((refine rd (by rfl) (ex_loadN (B := w.heap.size) (p := 0) (cs := d.cs) (vs := d.v.cs) 37 5 row36 siz36 rfl rfl ((unhide LL).get 0 rfl) rfl rfl) ?_); simp only [Act.put, List.setIfInBounds_toArray, List.set_cons_succ, List.set_cons_zero]) | ((refine rd (by rfl) (ex_loadN (B := w.heap.size) (p := 5) (cs := d.cs) (vs := d.g.cs) 37 5 row36 siz36 rfl rfl ((unhide LL).get 0 rfl) rfl rfl) ?_); simp only [Act.put, List.setIfInBounds_toArray, List.set_cons_succ, List.set_cons_zero]) | ((refine rd (by rfl) (ex_loadN (B := w.heap.size) (p := 10) (cs := d.cs) (vs := d.s.cs) 37 5 row36 siz36 rfl rfl ((unhide LL).get 0 rfl) rfl rfl) ?_); simp only [Act.put, List.setIfInBounds_toArray, List.set_cons_succ, List.set_cons_zero]) | ((refine rd (by rfl) (ex_load1 (B := w.heap.size) (p := 15) (cs := d.cs) (v := .int .i64 d.w) 38 Tryd.isAgg38 rfl rfl ((unhide LL).get 0 rfl) rfl) ?_); simp only [Act.put, List.setIfInBounds_toArray, List.set_cons_succ, List.set_cons_zero]) | ((refine rd (by rfl) (ex_load1 (B := w.heap.size) (p := 16) (cs := d.cs) (v := .int .i64 d.e) 38 Tryd.isAgg38 rfl rfl ((unhide LL).get 0 rfl) rfl) ?_); simp only [Act.put, List.setIfInBounds_toArray, List.set_cons_succ, List.set_cons_zero]) | ((refine rd (by rfl) (ex_load1 (B := w.heap.size) (p := 17) (cs := d.cs) (v := .int .i64 d.c) 38 Tryd.isAgg38 rfl rfl ((unhide LL).get 0 rfl) rfl) ?_); simp only [Act.put, List.setIfInBounds_toArray, List.set_cons_succ, List.set_cons_zero]) | ((refine rd (by rfl) (ex_loadN (B := w.heap.size + 1) (p := 0) (cs := d.cs) (vs := d.v.cs) 37 5 row36 siz36 rfl rfl ((unhide LL).get 1 rfl) rfl rfl) ?_); simp only [Act.put, List.setIfInBounds_toArray, List.set_cons_succ, List.set_cons_zero]) | ((refine rd (by rfl) (ex_loadN (B := w.heap.size + 1) (p := 5) (cs := d.cs) (vs := d.g.cs) 37 5 row36 siz36 rfl rfl ((unhide LL).get 1 rfl) rfl rfl) ?_); simp only [Act.put, List.setIfInBounds_toArray, List.set_cons_succ, List.set_cons_zero]) | ((refine rd (by rfl) (ex_loadN (B := w.heap.size + 1) (p := 10) (cs := d.cs) (vs := d.s.cs) 37 5 row36 siz36 rfl rfl ((unhide LL).get 1 rfl) rfl rfl) ?_); simp only [Act.put, List.setIfInBounds_toArray, List.set_cons_succ, List.set_cons_zero]) | ((refine rd (by rfl) (ex_load1 (B := w.heap.size + 1) (p := 15) (cs := d.cs) (v := .int .i64 d.w) 38 Tryd.isAgg38 rfl rfl ((unhide LL).get 1 rfl) rfl) ?_); simp only [Act.put, List.setIfInBounds_toArray, List.set_cons_succ, List.set_cons_zero]) | ((refine rd (by rfl) (ex_load1 (B := w.heap.size + 1) (p := 16) (cs := d.cs) (v := .int .i64 d.e) 38 Tryd.isAgg38 rfl rfl ((unhide LL).get 1 rfl) rfl) ?_); simp only [Act.put, List.setIfInBounds_toArray, List.set_cons_succ, List.set_cons_zero]) | ((refine rd (by rfl) (ex_load1 (B := w.heap.size + 1) (p := 17) (cs := d.cs) (v := .int .i64 d.c) 38 Tryd.isAgg38 rfl rfl ((unhide LL).get 1 rfl) rfl) ?_); simp only [Act.put, List.setIfInBounds_toArray, List.set_cons_succ, List.set_cons_zero]))
  refine ((unhide E1) _).mono ?_
  rintro _ w1 ⟨rfl, hb⟩
  replace LL := hide ((unhide LL).on hb)
  clear hb
  go_wp2_with (first | go_skip | ((refine rd (by rfl) (ex_loadN (B := w.heap.size) (p := 0) (cs := d.cs) (vs := d.v.cs) 37 5 row36 siz36 rfl rfl ((unhide LL).get 0 rfl) rfl rfl) ?_); simp only [Act.put, List.setIfInBounds_toArray, List.set_cons_succ, List.set_cons_zero]) | ((refine rd (by rfl) (ex_loadN (B := w.heap.size) (p := 5) (cs := d.cs) (vs := d.g.cs) 37 5 row36 siz36 rfl rfl ((unhide LL).get 0 rfl) rfl rfl) ?_); simp only [Act.put, List.setIfInBounds_toArray, List.set_cons_succ, List.set_cons_zero]) | ((refine rd (by rfl) (ex_loadN (B := w.heap.size) (p := 10) (cs := d.cs) (vs := d.s.cs) 37 5 row36 siz36 rfl rfl ((unhide LL).get 0 rfl) rfl rfl) ?_); simp only [Act.put, List.setIfInBounds_toArray, List.set_cons_succ, List.set_cons_zero]) | ((refine rd (by rfl) (ex_load1 (B := w.heap.size) (p := 15) (cs := d.cs) (v := .int .i64 d.w) 38 Tryd.isAgg38 rfl rfl ((unhide LL).get 0 rfl) rfl) ?_); simp only [Act.put, List.setIfInBounds_toArray, List.set_cons_succ, List.set_cons_zero]) | ((refine rd (by rfl) (ex_load1 (B := w.heap.size) (p := 16) (cs := d.cs) (v := .int .i64 d.e) 38 Tryd.isAgg38 rfl rfl ((unhide LL).get 0 rfl) rfl) ?_); simp only [Act.put, List.setIfInBounds_toArray, List.set_cons_succ, List.set_cons_zero]) | ((refine rd (by rfl) (ex_load1 (B := w.heap.size) (p := 17) (cs := d.cs) (v := .int .i64 d.c) 38 Tryd.isAgg38 rfl rfl ((unhide LL).get 0 rfl) rfl) ?_); simp only [Act.put, List.setIfInBounds_toArray, List.set_cons_succ, List.set_cons_zero]) | ((refine rd (by rfl) (ex_loadN (B := w.heap.size + 1) (p := 0) (cs := d.cs) (vs := d.v.cs) 37 5 row36 siz36 rfl rfl ((unhide LL).get 1 rfl) rfl rfl) ?_); simp only [Act.put, List.setIfInBounds_toArray, List.set_cons_succ, List.set_cons_zero]) | ((refine rd (by rfl) (ex_loadN (B := w.heap.size + 1) (p := 5) (cs := d.cs) (vs := d.g.cs) 37 5 row36 siz36 rfl rfl ((unhide LL).get 1 rfl) rfl rfl) ?_); simp only [Act.put, List.setIfInBounds_toArray, List.set_cons_succ, List.set_cons_zero]) | ((refine rd (by rfl) (ex_loadN (B := w.heap.size + 1) (p := 10) (cs := d.cs) (vs := d.s.cs) 37 5 row36 siz36 rfl rfl ((unhide LL).get 1 rfl) rfl rfl) ?_); simp only [Act.put, List.setIfInBounds_toArray, List.set_cons_succ, List.set_cons_zero]) | ((refine rd (by rfl) (ex_load1 (B := w.heap.size + 1) (p := 15) (cs := d.cs) (v := .int .i64 d.w) 38 Tryd.isAgg38 rfl rfl ((unhide LL).get 1 rfl) rfl) ?_); simp only [Act.put, List.setIfInBounds_toArray, List.set_cons_succ, List.set_cons_zero]) | ((refine rd (by rfl) (ex_load1 (B := w.heap.size + 1) (p := 16) (cs := d.cs) (v := .int .i64 d.e) 38 Tryd.isAgg38 rfl rfl ((unhide LL).get 1 rfl) rfl) ?_); simp only [Act.put, List.setIfInBounds_toArray, List.set_cons_succ, List.set_cons_zero]) | ((refine rd (by rfl) (ex_load1 (B := w.heap.size + 1) (p := 17) (cs := d.cs) (v := .int .i64 d.c) 38 Tryd.isAgg38 rfl rfl ((unhide LL).get 1 rfl) rfl) ?_); simp only [Act.put, List.setIfInBounds_toArray, List.set_cons_succ, List.set_cons_zero]))
  refine ((unhide E2) _).mono ?_
  rintro _ w2 ⟨rfl, hb⟩
  replace LL := hide ((unhide LL).on hb)
  clear hb
  go_wp2_with (first | go_skip | ((refine rd (by rfl) (ex_loadN (B := w.heap.size) (p := 0) (cs := d.cs) (vs := d.v.cs) 37 5 row36 siz36 rfl rfl ((unhide LL).get 0 rfl) rfl rfl) ?_); simp only [Act.put, List.setIfInBounds_toArray, List.set_cons_succ, List.set_cons_zero]) | ((refine rd (by rfl) (ex_loadN (B := w.heap.size) (p := 5) (cs := d.cs) (vs := d.g.cs) 37 5 row36 siz36 rfl rfl ((unhide LL).get 0 rfl) rfl rfl) ?_); simp only [Act.put, List.setIfInBounds_toArray, List.set_cons_succ, List.set_cons_zero]) | ((refine rd (by rfl) (ex_loadN (B := w.heap.size) (p := 10) (cs := d.cs) (vs := d.s.cs) 37 5 row36 siz36 rfl rfl ((unhide LL).get 0 rfl) rfl rfl) ?_); simp only [Act.put, List.setIfInBounds_toArray, List.set_cons_succ, List.set_cons_zero]) | ((refine rd (by rfl) (ex_load1 (B := w.heap.size) (p := 15) (cs := d.cs) (v := .int .i64 d.w) 38 Tryd.isAgg38 rfl rfl ((unhide LL).get 0 rfl) rfl) ?_); simp only [Act.put, List.setIfInBounds_toArray, List.set_cons_succ, List.set_cons_zero]) | ((refine rd (by rfl) (ex_load1 (B := w.heap.size) (p := 16) (cs := d.cs) (v := .int .i64 d.e) 38 Tryd.isAgg38 rfl rfl ((unhide LL).get 0 rfl) rfl) ?_); simp only [Act.put, List.setIfInBounds_toArray, List.set_cons_succ, List.set_cons_zero]) | ((refine rd (by rfl) (ex_load1 (B := w.heap.size) (p := 17) (cs := d.cs) (v := .int .i64 d.c) 38 Tryd.isAgg38 rfl rfl ((unhide LL).get 0 rfl) rfl) ?_); simp only [Act.put, List.setIfInBounds_toArray, List.set_cons_succ, List.set_cons_zero]) | ((refine rd (by rfl) (ex_loadN (B := w.heap.size + 1) (p := 0) (cs := d.cs) (vs := d.v.cs) 37 5 row36 siz36 rfl rfl ((unhide LL).get 1 rfl) rfl rfl) ?_); simp only [Act.put, List.setIfInBounds_toArray, List.set_cons_succ, List.set_cons_zero]) | ((refine rd (by rfl) (ex_loadN (B := w.heap.size + 1) (p := 5) (cs := d.cs) (vs := d.g.cs) 37 5 row36 siz36 rfl rfl ((unhide LL).get 1 rfl) rfl rfl) ?_); simp only [Act.put, List.setIfInBounds_toArray, List.set_cons_succ, List.set_cons_zero]) | ((refine rd (by rfl) (ex_loadN (B := w.heap.size + 1) (p := 10) (cs := d.cs) (vs := d.s.cs) 37 5 row36 siz36 rfl rfl ((unhide LL).get 1 rfl) rfl rfl) ?_); simp only [Act.put, List.setIfInBounds_toArray, List.set_cons_succ, List.set_cons_zero]) | ((refine rd (by rfl) (ex_load1 (B := w.heap.size + 1) (p := 15) (cs := d.cs) (v := .int .i64 d.w) 38 Tryd.isAgg38 rfl rfl ((unhide LL).get 1 rfl) rfl) ?_); simp only [Act.put, List.setIfInBounds_toArray, List.set_cons_succ, List.set_cons_zero]) | ((refine rd (by rfl) (ex_load1 (B := w.heap.size + 1) (p := 16) (cs := d.cs) (v := .int .i64 d.e) 38 Tryd.isAgg38 rfl rfl ((unhide LL).get 1 rfl) rfl) ?_); simp only [Act.put, List.setIfInBounds_toArray, List.set_cons_succ, List.set_cons_zero]) | ((refine rd (by rfl) (ex_load1 (B := w.heap.size + 1) (p := 17) (cs := d.cs) (v := .int .i64 d.c) 38 Tryd.isAgg38 rfl rfl ((unhide LL).get 1 rfl) rfl) ?_); simp only [Act.put, List.setIfInBounds_toArray, List.set_cons_succ, List.set_cons_zero]))
  refine ((unhide E3) _).mono ?_
  rintro _ w3 ⟨rfl, hb⟩
  replace LL := hide ((unhide LL).on hb)
  clear hb
  go_wp2_with (first | go_skip | ((refine rd (by rfl) (ex_loadN (B := w.heap.size) (p := 0) (cs := d.cs) (vs := d.v.cs) 37 5 row36 siz36 rfl rfl ((unhide LL).get 0 rfl) rfl rfl) ?_); simp only [Act.put, List.setIfInBounds_toArray, List.set_cons_succ, List.set_cons_zero]) | ((refine rd (by rfl) (ex_loadN (B := w.heap.size) (p := 5) (cs := d.cs) (vs := d.g.cs) 37 5 row36 siz36 rfl rfl ((unhide LL).get 0 rfl) rfl rfl) ?_); simp only [Act.put, List.setIfInBounds_toArray, List.set_cons_succ, List.set_cons_zero]) | ((refine rd (by rfl) (ex_loadN (B := w.heap.size) (p := 10) (cs := d.cs) (vs := d.s.cs) 37 5 row36 siz36 rfl rfl ((unhide LL).get 0 rfl) rfl rfl) ?_); simp only [Act.put, List.setIfInBounds_toArray, List.set_cons_succ, List.set_cons_zero]) | ((refine rd (by rfl) (ex_load1 (B := w.heap.size) (p := 15) (cs := d.cs) (v := .int .i64 d.w) 38 Tryd.isAgg38 rfl rfl ((unhide LL).get 0 rfl) rfl) ?_); simp only [Act.put, List.setIfInBounds_toArray, List.set_cons_succ, List.set_cons_zero]) | ((refine rd (by rfl) (ex_load1 (B := w.heap.size) (p := 16) (cs := d.cs) (v := .int .i64 d.e) 38 Tryd.isAgg38 rfl rfl ((unhide LL).get 0 rfl) rfl) ?_); simp only [Act.put, List.setIfInBounds_toArray, List.set_cons_succ, List.set_cons_zero]) | ((refine rd (by rfl) (ex_load1 (B := w.heap.size) (p := 17) (cs := d.cs) (v := .int .i64 d.c) 38 Tryd.isAgg38 rfl rfl ((unhide LL).get 0 rfl) rfl) ?_); simp only [Act.put, List.setIfInBounds_toArray, List.set_cons_succ, List.set_cons_zero]) | ((refine rd (by rfl) (ex_loadN (B := w.heap.size + 1) (p := 0) (cs := d.cs) (vs := d.v.cs) 37 5 row36 siz36 rfl rfl ((unhide LL).get 1 rfl) rfl rfl) ?_); simp only [Act.put, List.setIfInBounds_toArray, List.set_cons_succ, List.set_cons_zero]) | ((refine rd (by rfl) (ex_loadN (B := w.heap.size + 1) (p := 5) (cs := d.cs) (vs := d.g.cs) 37 5 row36 siz36 rfl rfl ((unhide LL).get 1 rfl) rfl rfl) ?_); simp only [Act.put, List.setIfInBounds_toArray, List.set_cons_succ, List.set_cons_zero]) | ((refine rd (by rfl) (ex_loadN (B := w.heap.size + 1) (p := 10) (cs := d.cs) (vs := d.s.cs) 37 5 row36 siz36 rfl rfl ((unhide LL).get 1 rfl) rfl rfl) ?_); simp only [Act.put, List.setIfInBounds_toArray, List.set_cons_succ, List.set_cons_zero]) | ((refine rd (by rfl) (ex_load1 (B := w.heap.size + 1) (p := 15) (cs := d.cs) (v := .int .i64 d.w) 38 Tryd.isAgg38 rfl rfl ((unhide LL).get 1 rfl) rfl) ?_); simp only [Act.put, List.setIfInBounds_toArray, List.set_cons_succ, List.set_cons_zero]) | ((refine rd (by rfl) (ex_load1 (B := w.heap.size + 1) (p := 16) (cs := d.cs) (v := .int .i64 d.e) 38 Tryd.isAgg38 rfl rfl ((unhide LL).get 1 rfl) rfl) ?_); simp only [Act.put, List.setIfInBounds_toArray, List.set_cons_succ, List.set_cons_zero]) | ((refine rd (by rfl) (ex_load1 (B := w.heap.size + 1) (p := 17) (cs := d.cs) (v := .int .i64 d.c) 38 Tryd.isAgg38 rfl rfl ((unhide LL).get 1 rfl) rfl) ?_); simp only [Act.put, List.setIfInBounds_toArray, List.set_cons_succ, List.set_cons_zero]))
  go_ret
  exact ⟨by simp, (unhide LL).fr.below⟩
end Go.Proofs.YtmemceindohklaaDoor

/-! Mt -/
namespace Go.Proofs.YtmemceindohklaaDoor
open Go Go.Proofs Go.Maps Go.RowKit
set_option linter.unusedSimpArgs false
set_option linter.unusedVariables false
set_option maxHeartbeats 1000000
/-- Rows of properties. -/
def RowsP (w : World) (b : Nat) (l : List (KK × DD)) : Prop := ∀ j, (h : j < l.length) → w.rangeAt b (j * 20) (l[j].1.cs ++ l[j].2.cs)
theorem RowsP.keep {w w' : World} {b : Nat} {l : List (KK × DD)} (h : RowsP w b l) (he : w'.heap[b]? = w.heap[b]?) : RowsP w' b l := fun j hj i v hv => (World.cell?_of_block he).trans (h j hj i v hv)
theorem ex_loadR {o : Oper} {a : Act} {W : World} {x : Operand} {B p : Nat} {vs : List Value} (t : TypeId) (n : Nat) (hu : ∃ d, Tryd.prog.underlying t = some d ∧ d.isRow = true) (hi : (Tryd.prog.info? t).map (·.size) = some n) (ho : o.op = .load t x) (hx : a.eval x = .pointer (some ⟨B, p, none⟩)) (h0 : W.rangeAt B p vs) (hn : vs.length = n) : (execOp a.eval o).run Tryd.prog W = .ok (.value (.agg vs.toArray)) W := by
  obtain ⟨d, hu, hd⟩ := hu
  unfold execOp
  simp only [ho, hx, Instr.loadAt, Instr.sureAddr, Sem.run_bind, Sem.run_pure, Result.andThen_ok, run_loadVar_mid W B p t vs d h0 hu hd (by rw [hi, hn])]
theorem index61 (g n cap j : Nat) (hj : j < n) (w : World) : (Instr.indexAt 25 (.slice (some ⟨g, 0, none⟩) n cap) (.int .i64 j)).run Tryd.prog w = .ok (.pointer (some ⟨g, j * 20, none⟩)) w := by
  rw [run_indexAt_slice (h := by kernel_rfl), if_pos ⟨by omega, by omega⟩]
  have e : (sizeOf (Tryd.prog.elem 25)).run Tryd.prog w = .ok 20 w := by kernel_rfl
  rw [e]
  have e2 : (Addr.add ⟨g, 0, none⟩ ((j : Int).toNat * 20)) = ⟨g, j * 20, none⟩ := by
    rw [Addr.add_mid]
    simp
  show Result.ok (Value.pointer (some (Addr.add ⟨g, 0, none⟩ ((j : Int).toNat * 20)))) w = _
  rw [e2]
theorem ex_index61 {o : Oper} {a : Act} {w : World} {x ix : Operand} {g n cap : Nat} (j : Nat) (ho : o.op = .indexAddr 25 x ix) (hx : a.eval x = .slice (some ⟨g, 0, none⟩) n cap) (hix : a.eval ix = .int .i64 j) (hj : j < n) : (execOp a.eval o).run Tryd.prog w = .ok (.value (.pointer (some ⟨g, j * 20, none⟩))) w := by
  unfold execOp
  simp only [ho, hx, hix]
  have := index61 g n cap j hj w
  simp [this]
theorem range_left {w : World} {b p : Nat} {a c : List Value} (h : w.rangeAt b p (a ++ c)) : w.rangeAt b p a := fun j v hv => h j v (by rw [List.getElem?_append_left (List.getElem?_eq_some_iff.1 hv).1]; exact hv)
theorem range_right {w : World} {b p : Nat} {a c : List Value} (h : w.rangeAt b p (a ++ c)) : w.rangeAt b (p + a.length) c := fun j v hv => by
  have := h (a.length + j) v (by rw [List.getElem?_append_right (by omega)]; simpa using hv)
  rwa [← Nat.add_assoc] at this
set_option maxRecDepth 100000 in
theorem same_propsR (b1 cap1 b2 cap2 : Nat) (l : List (KK × DD)) (w : World) (h1 : RowsP w b1 l) (h2 : RowsP w b2 l) (hb1 : b1 < w.heap.size) (hb2 : b2 < w.heap.size) (hl : l.length ≤ 100000) : Calls Tryd.prog 10 #[.slice (some ⟨b1, 0, none⟩) l.length cap1, .slice (some ⟨b2, 0, none⟩) l.length cap2] w fun e w' => e = .returned (.bool true) ∧ Below w.heap.size w w' := by
  have H1 := hide h1
  have H2 := hide h2
  have HLB := hide (And.intro hb1 hb2)
  clear h1 h2 hb1 hb2
  go_enter Tryd.func10, Tryd.ntmps10
  go_wp2_with fail
  go_loopg [5] l.length (fun gm s5 wr => ∃ j : Nat, s5 = .int .i64 j ∧ j ≤ l.length ∧ l.length - j ≤ gm ∧ Hid (Below w.heap.size w wr))
  case atStart => exact ⟨0, rfl, by omega, by omega, hide (Below.refl _ _)⟩
  case round =>
    obtain ⟨j, rfl, hj, hg, HB⟩ := hrel
    by_cases hjl : j < l.length
    · have hjz : (j : Int) < l.length := by omega
      obtain ⟨k, hk⟩ : ∃ k, k = l[j].1 := ⟨_, rfl⟩
      obtain ⟨d, hd⟩ : ∃ d, d = l[j].2 := ⟨_, rfl⟩
      have hBs := (unhide HB).size
      have HS : Hid (wr.drew.rangeAt b1 (j * 20) (k.cs ++ d.cs) ∧ wr.drew.rangeAt b2 (j * 20) (k.cs ++ d.cs)) := hide ⟨by rw [hk, hd]; exact (unhide H1).keep (w' := wr.drew) ((unhide HB).block b1 (unhide HLB).1) j hjl, by rw [hk, hd]; exact (unhide H2).keep (w' := wr.drew) ((unhide HB).block b2 (unhide HLB).2) j hjl⟩
      have HLT : Hid (b1 < wr.drew.heap.size ∧ b2 < wr.drew.heap.size) := hide ⟨Nat.lt_of_lt_of_le (unhide HLB).1 hBs, Nat.lt_of_lt_of_le (unhide HLB).2 hBs⟩
      clear hk hd hBs
      go_wp2
      refine wp_region_held_drew (P := Tryd.prog) (S := fun X => X.rangeAt b1 (j * 20) (k.cs ++ d.cs) ∧ X.rangeAt b2 (j * 20) (k.cs ++ d.cs)) (by kernel_rfl) (unhide HS) (fun hS0 => ?_)
      refine gsem 0 (some 17) (.slice (some ⟨b1, 0, none⟩) l.length cap1) rfl (by kernel_rfl) (by kernel_rfl) (by kernel_rfl) (fun _ _ _ h => h) (by kernel_rfl) (by kernel_rfl) (fun _ _ => by kernel_rfl) hS0 ?_
      simp only [Act.put, List.setIfInBounds_toArray, List.set_cons_succ, List.set_cons_zero]
      refine gsem 1 (some 18) (.int .i64 (j : Nat)) rfl (by kernel_rfl) (by kernel_rfl) (by kernel_rfl) (fun _ _ _ h => h) (by kernel_rfl) (by kernel_rfl) (fun _ _ => by kernel_rfl) hS0 ?_
      simp only [Act.put, List.setIfInBounds_toArray, List.set_cons_succ, List.set_cons_zero]
      refine gsem 2 (some 19) (.pointer (some ⟨b1, j * 20, none⟩)) rfl (by kernel_rfl) (by kernel_rfl) (by kernel_rfl) (fun _ _ _ h => h) (by kernel_rfl) (by kernel_rfl) (fun X hX => ex_index61 (x := .tmp 17) (ix := .tmp 18) j rfl rfl rfl hjl) hS0 ?_
      simp only [Act.put, List.setIfInBounds_toArray, List.set_cons_succ, List.set_cons_zero]
      refine gsem 3 (some 20) (.pointer (some ⟨b1, j * 20, none⟩)) rfl (by kernel_rfl) (by kernel_rfl) (by kernel_rfl) (fun _ _ _ h => h) (by kernel_rfl) (by kernel_rfl) (fun _ _ => by kernel_rfl) hS0 ?_
      simp only [Act.put, List.setIfInBounds_toArray, List.set_cons_succ, List.set_cons_zero]
      refine gsem 4 (some 21) (k.agg) rfl (by kernel_rfl) (by kernel_rfl) (by kernel_rfl) (fun _ _ _ h => h) (by kernel_rfl) (by kernel_rfl) (fun X hX => ex_loadR (vs := k.cs) 34 2 row33x siz33 rfl rfl (range_left hX.1) rfl) hS0 ?_
      simp only [Act.put, List.setIfInBounds_toArray, List.set_cons_succ, List.set_cons_zero]
      refine gsem 5 (some 22) (.slice (some ⟨b2, 0, none⟩) l.length cap2) rfl (by kernel_rfl) (by kernel_rfl) (by kernel_rfl) (fun _ _ _ h => h) (by kernel_rfl) (by kernel_rfl) (fun _ _ => by kernel_rfl) hS0 ?_
      simp only [Act.put, List.setIfInBounds_toArray, List.set_cons_succ, List.set_cons_zero]
      refine gsem 6 (some 23) (.int .i64 (j : Nat)) rfl (by kernel_rfl) (by kernel_rfl) (by kernel_rfl) (fun _ _ _ h => h) (by kernel_rfl) (by kernel_rfl) (fun _ _ => by kernel_rfl) hS0 ?_
      simp only [Act.put, List.setIfInBounds_toArray, List.set_cons_succ, List.set_cons_zero]
      refine gsem 7 (some 24) (.pointer (some ⟨b2, j * 20, none⟩)) rfl (by kernel_rfl) (by kernel_rfl) (by kernel_rfl) (fun _ _ _ h => h) (by kernel_rfl) (by kernel_rfl) (fun X hX => ex_index61 (x := .tmp 22) (ix := .tmp 23) j rfl rfl rfl hjl) hS0 ?_
      simp only [Act.put, List.setIfInBounds_toArray, List.set_cons_succ, List.set_cons_zero]
      refine gsem 8 (some 25) (.pointer (some ⟨b2, j * 20, none⟩)) rfl (by kernel_rfl) (by kernel_rfl) (by kernel_rfl) (fun _ _ _ h => h) (by kernel_rfl) (by kernel_rfl) (fun _ _ => by kernel_rfl) hS0 ?_
      simp only [Act.put, List.setIfInBounds_toArray, List.set_cons_succ, List.set_cons_zero]
      refine gsem 9 (some 26) (k.agg) rfl (by kernel_rfl) (by kernel_rfl) (by kernel_rfl) (fun _ _ _ h => h) (by kernel_rfl) (by kernel_rfl) (fun X hX => ex_loadR (vs := k.cs) 34 2 row33x siz33 rfl rfl (range_left hX.2) rfl) hS0 ?_
      simp only [Act.put, List.setIfInBounds_toArray, List.set_cons_succ, List.set_cons_zero]
      refine gbin 10 (some 27) (b := .neq) (t := 34) (t2 := 34) (x := .tmp 21) (y := .tmp 26) (vx := k.agg) (vy := k.agg) (.bool false) rfl (by kernel_rfl) (by kernel_rfl) (by kernel_rfl) (fun _ _ _ h => h) (by kernel_rfl) (by kernel_rfl) (by kernel_rfl) (by kernel_rfl) (by kernel_rfl) (fun w => neq23 k w) (fun _ => by kernel_rfl) hS0 ?_
      simp only [Act.put, List.setIfInBounds_toArray, List.set_cons_succ, List.set_cons_zero]
      refine gsem 11 (some 28) (.bool false) rfl (by kernel_rfl) (by kernel_rfl) (by kernel_rfl) (fun _ _ _ h => h) (by kernel_rfl) (by kernel_rfl) (fun _ _ => by kernel_rfl) hS0 ?_
      simp only [Act.put, List.setIfInBounds_toArray, List.set_cons_succ, List.set_cons_zero]
      refine gsem 12 (some 29) (.slice (some ⟨b1, 0, none⟩) l.length cap1) rfl (by kernel_rfl) (by kernel_rfl) (by kernel_rfl) (fun _ _ _ h => h) (by kernel_rfl) (by kernel_rfl) (fun _ _ => by kernel_rfl) hS0 ?_
      simp only [Act.put, List.setIfInBounds_toArray, List.set_cons_succ, List.set_cons_zero]
      refine gsem 13 (some 30) (.int .i64 (j : Nat)) rfl (by kernel_rfl) (by kernel_rfl) (by kernel_rfl) (fun _ _ _ h => h) (by kernel_rfl) (by kernel_rfl) (fun _ _ => by kernel_rfl) hS0 ?_
      simp only [Act.put, List.setIfInBounds_toArray, List.set_cons_succ, List.set_cons_zero]
      refine gsem 14 (some 31) (.pointer (some ⟨b1, j * 20, none⟩)) rfl (by kernel_rfl) (by kernel_rfl) (by kernel_rfl) (fun _ _ _ h => h) (by kernel_rfl) (by kernel_rfl) (fun X hX => ex_index61 (x := .tmp 29) (ix := .tmp 30) j rfl rfl rfl hjl) hS0 ?_
      simp only [Act.put, List.setIfInBounds_toArray, List.set_cons_succ, List.set_cons_zero]
      refine gsem 15 (some 32) (.pointer (some ⟨b1, j * 20 + 2, none⟩)) rfl (by kernel_rfl) (by kernel_rfl) (by kernel_rfl) (fun _ _ _ h => h) (by kernel_rfl) (by kernel_rfl) (fun _ _ => by kernel_rfl) hS0 ?_
      simp only [Act.put, List.setIfInBounds_toArray, List.set_cons_succ, List.set_cons_zero]
      refine gsem 16 (some 33) (d.agg) rfl (by kernel_rfl) (by kernel_rfl) (by kernel_rfl) (fun _ _ _ h => h) (by kernel_rfl) (by kernel_rfl) (fun X hX => ex_loadR (vs := d.cs) 40 18 row39 siz39 rfl rfl (range_right hX.1) rfl) hS0 ?_
      simp only [Act.put, List.setIfInBounds_toArray, List.set_cons_succ, List.set_cons_zero]
      refine gsem 17 (some 34) (.slice (some ⟨b2, 0, none⟩) l.length cap2) rfl (by kernel_rfl) (by kernel_rfl) (by kernel_rfl) (fun _ _ _ h => h) (by kernel_rfl) (by kernel_rfl) (fun _ _ => by kernel_rfl) hS0 ?_
      simp only [Act.put, List.setIfInBounds_toArray, List.set_cons_succ, List.set_cons_zero]
      refine gsem 18 (some 35) (.int .i64 (j : Nat)) rfl (by kernel_rfl) (by kernel_rfl) (by kernel_rfl) (fun _ _ _ h => h) (by kernel_rfl) (by kernel_rfl) (fun _ _ => by kernel_rfl) hS0 ?_
      simp only [Act.put, List.setIfInBounds_toArray, List.set_cons_succ, List.set_cons_zero]
      refine gsem 19 (some 36) (.pointer (some ⟨b2, j * 20, none⟩)) rfl (by kernel_rfl) (by kernel_rfl) (by kernel_rfl) (fun _ _ _ h => h) (by kernel_rfl) (by kernel_rfl) (fun X hX => ex_index61 (x := .tmp 34) (ix := .tmp 35) j rfl rfl rfl hjl) hS0 ?_
      simp only [Act.put, List.setIfInBounds_toArray, List.set_cons_succ, List.set_cons_zero]
      refine gsem 20 (some 37) (.pointer (some ⟨b2, j * 20 + 2, none⟩)) rfl (by kernel_rfl) (by kernel_rfl) (by kernel_rfl) (fun _ _ _ h => h) (by kernel_rfl) (by kernel_rfl) (fun _ _ => by kernel_rfl) hS0 ?_
      simp only [Act.put, List.setIfInBounds_toArray, List.set_cons_succ, List.set_cons_zero]
      refine gsem 21 (some 38) (d.agg) rfl (by kernel_rfl) (by kernel_rfl) (by kernel_rfl) (fun _ _ _ h => h) (by kernel_rfl) (by kernel_rfl) (fun X hX => ex_loadR (vs := d.cs) 40 18 row39 siz39 rfl rfl (range_right hX.2) rfl) hS0 ?_
      simp only [Act.put, List.setIfInBounds_toArray, List.set_cons_succ, List.set_cons_zero]
      have hwd := (unhide HLT)
      refine wpAnyH_ready (rs := [22]) (by kernel_rfl) (by simp) (gcall 22 (some 39) rfl (by kernel_rfl) (by kernel_rfl) (by kernel_rfl) (sameDesc21 d _) (fun X hX => ⟨fun i v hv => (World.cell?_of_block (hX.block b1 hwd.1)).trans (hS0.1 i v hv), fun i v hv => (World.cell?_of_block (hX.block b2 hwd.2)).trans (hS0.2 i v hv)⟩) ?_ AllReadyH.nil)
      intro X hX
      replace hS0 : X.rangeAt b1 (j * 20) (k.cs ++ d.cs) ∧ X.rangeAt b2 (j * 20) (k.cs ++ d.cs) := ⟨fun i v hv => (World.cell?_of_block (hX.block b1 hwd.1)).trans (hS0.1 i v hv), fun i v hv => (World.cell?_of_block (hX.block b2 hwd.2)).trans (hS0.2 i v hv)⟩
      have HX := hide hX
      clear hX
      simp only [Act.put, List.setIfInBounds_toArray, List.set_cons_succ, List.set_cons_zero]
      refine gsem 23 (some 40) (.bool false) rfl (by kernel_rfl) (by kernel_rfl) (by kernel_rfl) (fun _ _ _ h => h) (by kernel_rfl) (by kernel_rfl) (fun _ _ => by kernel_rfl) hS0 ?_
      simp only [Act.put, List.setIfInBounds_toArray, List.set_cons_succ, List.set_cons_zero]
      refine gsem 24 (some 41) (.bool false) rfl (by kernel_rfl) (by kernel_rfl) (by kernel_rfl) (fun _ _ _ h => h) (by kernel_rfl) (by kernel_rfl) (fun _ _ => by kernel_rfl) hS0 ?_
      simp only [Act.put, List.setIfInBounds_toArray, List.set_cons_succ, List.set_cons_zero]
      refine wpAnyH_done (by kernel_rfl) ?_ _
      try simp only [Act.put, List.setIfInBounds_toArray, List.set_cons_succ, List.set_cons_zero]
      clear hS0
      go_wp2
      go_roundg (l.length - (j + 1))
      case measure => omega
      case rel => exact ⟨j + 1, by go_num, by omega, Nat.le_refl _, hide ((unhide HB).trans (((Below.refl _ _).drew.trans ((unhide HX).mono (Nat.le_refl _))).mono (unhide HB).size))⟩
    · have hjz : ¬ (j : Int) < l.length := by omega
      go_wp2
      go_ret
      exact ⟨rfl, unhide HB⟩
end Go.Proofs.YtmemceindohklaaDoor

/-! Mu -/
namespace Go.Proofs.YtmemceindohklaaDoor
open Go Go.Proofs Go.Maps Go.RowKit
set_option linter.unusedSimpArgs false
set_option linter.unusedVariables false
set_option maxHeartbeats 1000000
theorem ex_index64 {o : Oper} {a : Act} {w : World} {x ix : Operand} {g off n cap : Nat} (j : Nat) (ho : o.op = .indexAddr 49 x ix) (hx : a.eval x = .slice (some ⟨g, off, none⟩) n cap) (hix : a.eval ix = .int .i64 j) (hj : j < n) : (execOp a.eval o).run Tryd.prog w = .ok (.value (.pointer (some ⟨g, off + j * 2, none⟩))) w := by
  unfold execOp
  simp only [ho, hx, hix]
  have := index24 g off n cap j hj w
  simp [this]
theorem nil_keys32 (A1 A2 : Option Addr) (c1 c2 : Nat) (w : World) : Calls Tryd.prog 23 #[.slice A1 0 c1, .slice A2 0 c2] w fun e w' => e = .returned (.bool true) ∧ Below w.heap.size w w' := by
  go_enter Tryd.func23, Tryd.ntmps23
  go_wp2_with fail
  go_loopg [5] 0 (fun gm s5 wr => s5 = .int .i64 0 ∧ wr = w)
  case atStart => exact ⟨rfl, rfl⟩
  case round =>
    obtain ⟨rfl, rfl⟩ := hrel
    go_wp2
    go_ret
    exact ⟨rfl, Below.refl _ _⟩
theorem nil_props31 (A1 A2 : Option Addr) (c1 c2 : Nat) (w : World) : Calls Tryd.prog 10 #[.slice A1 0 c1, .slice A2 0 c2] w fun e w' => e = .returned (.bool true) ∧ Below w.heap.size w w' := by
  go_enter Tryd.func10, Tryd.ntmps10
  go_wp2_with fail
  go_loopg [5] 0 (fun gm s5 wr => s5 = .int .i64 0 ∧ wr = w)
  case atStart => exact ⟨rfl, rfl⟩
  case round =>
    obtain ⟨rfl, rfl⟩ := hrel
    go_wp2
    go_ret
    exact ⟨rfl, Below.refl _ _⟩
set_option maxRecDepth 100000 in
theorem same_keysR (b1 off1 cap1 b2 off2 cap2 : Nat) (l : List KK) (w : World) (h1 : RowsK w b1 off1 l) (h2 : RowsK w b2 off2 l) (hb1 : b1 < w.heap.size) (hb2 : b2 < w.heap.size) (hl : l.length ≤ 100000) : Calls Tryd.prog 23 #[.slice (some ⟨b1, off1, none⟩) l.length cap1, .slice (some ⟨b2, off2, none⟩) l.length cap2] w fun e w' => e = .returned (.bool true) ∧ Below w.heap.size w w' := by
  have H1 := hide h1
  have H2 := hide h2
  have HLB := hide (And.intro hb1 hb2)
  clear h1 h2 hb1 hb2
  go_enter Tryd.func23, Tryd.ntmps23
  go_wp2_with fail
  go_loopg [5] l.length (fun gm s5 wr => ∃ j : Nat, s5 = .int .i64 j ∧ j ≤ l.length ∧ l.length - j ≤ gm ∧ Hid (Below w.heap.size w wr))
  case atStart => exact ⟨0, rfl, by omega, by omega, hide (Below.refl _ _)⟩
  case round =>
    obtain ⟨j, rfl, hj, hg, HB⟩ := hrel
    by_cases hjl : j < l.length
    · have hjz : (j : Int) < l.length := by omega
      obtain ⟨k, hk⟩ : ∃ k, k = l[j] := ⟨_, rfl⟩
      have HS : Hid (wr.drew.rangeAt b1 (off1 + j * 2) k.cs ∧ wr.drew.rangeAt b2 (off2 + j * 2) k.cs) := hide ⟨by rw [hk]; exact (unhide H1).keep (w' := wr.drew) ((unhide HB).block b1 (unhide HLB).1) j hjl, by rw [hk]; exact (unhide H2).keep (w' := wr.drew) ((unhide HB).block b2 (unhide HLB).2) j hjl⟩
      clear hk
      go_wp2
      refine wp_region_held_drew (P := Tryd.prog) (S := fun X => X.rangeAt b1 (off1 + j * 2) k.cs ∧ X.rangeAt b2 (off2 + j * 2) k.cs) (by kernel_rfl) (unhide HS) (fun hS0 => ?_)
      refine gsem 0 (some 17) (.slice (some ⟨b1, off1, none⟩) l.length cap1) rfl (by kernel_rfl) (by kernel_rfl) (by kernel_rfl) (fun _ _ _ h => h) (by kernel_rfl) (by kernel_rfl) (fun _ _ => by kernel_rfl) hS0 ?_
      simp only [Act.put, List.setIfInBounds_toArray, List.set_cons_succ, List.set_cons_zero]
      refine gsem 1 (some 18) (.int .i64 (j : Nat)) rfl (by kernel_rfl) (by kernel_rfl) (by kernel_rfl) (fun _ _ _ h => h) (by kernel_rfl) (by kernel_rfl) (fun _ _ => by kernel_rfl) hS0 ?_
      simp only [Act.put, List.setIfInBounds_toArray, List.set_cons_succ, List.set_cons_zero]
      refine gsem 2 (some 19) (.pointer (some ⟨b1, off1 + j * 2, none⟩)) rfl (by kernel_rfl) (by kernel_rfl) (by kernel_rfl) (fun _ _ _ h => h) (by kernel_rfl) (by kernel_rfl) (fun X hX => ex_index64 (x := .tmp 17) (ix := .tmp 18) j rfl rfl rfl hjl) hS0 ?_
      simp only [Act.put, List.setIfInBounds_toArray, List.set_cons_succ, List.set_cons_zero]
      refine gsem 3 (some 20) (k.agg) rfl (by kernel_rfl) (by kernel_rfl) (by kernel_rfl) (fun _ _ _ h => h) (by kernel_rfl) (by kernel_rfl) (fun X hX => ex_loadR (vs := k.cs) 34 2 row33x siz33 rfl rfl hX.1 rfl) hS0 ?_
      simp only [Act.put, List.setIfInBounds_toArray, List.set_cons_succ, List.set_cons_zero]
      refine gsem 4 (some 21) (.slice (some ⟨b2, off2, none⟩) l.length cap2) rfl (by kernel_rfl) (by kernel_rfl) (by kernel_rfl) (fun _ _ _ h => h) (by kernel_rfl) (by kernel_rfl) (fun _ _ => by kernel_rfl) hS0 ?_
      simp only [Act.put, List.setIfInBounds_toArray, List.set_cons_succ, List.set_cons_zero]
      refine gsem 5 (some 22) (.int .i64 (j : Nat)) rfl (by kernel_rfl) (by kernel_rfl) (by kernel_rfl) (fun _ _ _ h => h) (by kernel_rfl) (by kernel_rfl) (fun _ _ => by kernel_rfl) hS0 ?_
      simp only [Act.put, List.setIfInBounds_toArray, List.set_cons_succ, List.set_cons_zero]
      refine gsem 6 (some 23) (.pointer (some ⟨b2, off2 + j * 2, none⟩)) rfl (by kernel_rfl) (by kernel_rfl) (by kernel_rfl) (fun _ _ _ h => h) (by kernel_rfl) (by kernel_rfl) (fun X hX => ex_index64 (x := .tmp 21) (ix := .tmp 22) j rfl rfl rfl hjl) hS0 ?_
      simp only [Act.put, List.setIfInBounds_toArray, List.set_cons_succ, List.set_cons_zero]
      refine gsem 7 (some 24) (k.agg) rfl (by kernel_rfl) (by kernel_rfl) (by kernel_rfl) (fun _ _ _ h => h) (by kernel_rfl) (by kernel_rfl) (fun X hX => ex_loadR (vs := k.cs) 34 2 row33x siz33 rfl rfl hX.2 rfl) hS0 ?_
      simp only [Act.put, List.setIfInBounds_toArray, List.set_cons_succ, List.set_cons_zero]
      refine gbin 8 (some 25) (b := .neq) (t := 34) (t2 := 34) (x := .tmp 20) (y := .tmp 24) (vx := k.agg) (vy := k.agg) (.bool false) rfl (by kernel_rfl) (by kernel_rfl) (by kernel_rfl) (fun _ _ _ h => h) (by kernel_rfl) (by kernel_rfl) (by kernel_rfl) (by kernel_rfl) (by kernel_rfl) (fun w => neq23 k w) (fun _ => by kernel_rfl) hS0 ?_
      simp only [Act.put, List.setIfInBounds_toArray, List.set_cons_succ, List.set_cons_zero]
      refine wpAnyH_done (by kernel_rfl) ?_ _
      try simp only [Act.put, List.setIfInBounds_toArray, List.set_cons_succ, List.set_cons_zero]
      clear hS0
      go_wp2
      go_roundg (l.length - (j + 1))
      case measure => omega
      case rel => exact ⟨j + 1, by go_num, by omega, Nat.le_refl _, hide ((unhide HB).drew)⟩
    · have hjz : ¬ (j : Int) < l.length := by omega
      go_wp2
      go_ret
      exact ⟨rfl, unhide HB⟩
theorem sameKeys32 (v u : Value) (l : List KK) (w : World) (h1 : ReadsK w v l) (h2 : ReadsK w u l) (hl : l.length ≤ 100000) : Calls Tryd.prog 23 #[v, u] w fun e w' => e = .returned (.bool true) ∧ Below w.heap.size w w' := by
  rcases h1 with ⟨A, c, rfl, rfl⟩ | ⟨b, off, cap, rfl, hb, hr⟩
  · rcases h2 with ⟨A2, c2, rfl, -⟩ | ⟨b2, off2, cap2, rfl, hb2, hr2⟩
    · exact nil_keys32 A A2 c c2 w
    · exact nil_keys32 A _ c cap2 w
  · rcases h2 with ⟨A2, c2, rfl, rfl⟩ | ⟨b2, off2, cap2, rfl, hb2, hr2⟩
    · exact nil_keys32 _ A2 cap c2 w
    · exact same_keysR b off cap b2 off2 cap2 l w hr hr2 hb hb2 hl
end Go.Proofs.YtmemceindohklaaDoor
