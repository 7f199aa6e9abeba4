import Derived.Test.YtkpfikeggleenaaGreatDoorYg
namespace Go.Proofs.YtkpfikeggleenaaGreatDoor
open Go Go.Proofs Go.Maps Go.RowKit
set_option linter.unusedSimpArgs false
set_option linter.unusedVariables false
set_option maxHeartbeats 1000000
/-- A string's value. -/
def sV (s : ByteArray) : VV := ⟨5, false, 0, s, 0⟩
theorem sV_made {s : ByteArray} (h : (sV s).good = true) : VV.made (sV s) = sV s := by unfold VV.made; rw [if_pos h]
theorem sV_not {s : ByteArray} (h : (sV s).good = false) : VV.made (sV s) = zeroV := by unfold VV.made; rw [if_neg (by simp [h])]; rfl
theorem sV_size {s : ByteArray} (h : (sV s).good = true) : s.size ≤ 1048576 := by
  unfold VV.good goodV inG at h
  simp [sV, fitV] at h
  exact of_decide_eq_true h.2.1
theorem ex_lookS {o : Oper} {a : Act} {w : World} {m x : Operand} {b n sz : Nat} {F : ByteArray → Option Nat} {s : ByteArray} {r : Option Nat} (ho : o.op = .lookup 70 m x true) (hm : a.eval m = .map (some b)) (hx : a.eval x = .string s) (h : MapS w b n sz F) (hk : OkS s) (hr : F s = r) : (execOp a.eval o).run Tryz.prog w = .ok (.value (.tuple #[.int .i64 (zv r), .bool r.isSome])) w := by
  subst hr
  simp [execOp, ho, hm, hx, h.look hk, Result.andThen]
theorem ex_updS {o : Oper} {a : Act} {w : World} {m x y : Operand} {b n sz r : Nat} {F : ByteArray → Option Nat} {s : ByteArray} (ho : o.op = .mapUpdate 70 m x y) (hm : a.eval m = .map (some b)) (hx : a.eval x = .string s) (hy : a.eval y = .int .i64 (r : Nat)) (h : MapS w b n sz F) (hk : OkS s) (hn : n < maxLen) :
    ∃ X, (execOp a.eval o).run Tryz.prog w = .ok .skip X ∧ MapS X b (n + 1) (if (F s).isSome then sz else sz + 1) (putS F s r) ∧ Fr w X [b] := by
  obtain ⟨X, h1, h2, h3⟩ := h.store hk hn r
  refine ⟨X, ?_, h2, Fr.grown h3.grown⟩
  unfold execOp
  simp only [ho, hm, hx, hy]
  simp [h1]
theorem gupdS {md : Region.Mode} {ops : Array Oper} {Q : Exit → Act → World → Prop} {S : World → Prop} {w : World} {fuel : Nat} {listed : Array Bool} {a : Act} {o : Oper} {rs : List Nat} (i : Nat) {m x y : Operand} {b n sz r : Nat} {F : ByteArray → Option Nat} {s : ByteArray} (hi : ops[i]? = some o) (hd : o.dst = none) (hw : Region.wanted o (yielded ops a.tmps) = true) (ho : o.op = .mapUpdate 70 m x y) (hm : a.eval m = .map (some b)) (hx : a.eval x = .string s) (hy : a.eval y = .int .i64 (r : Nat)) (h : MapS w b n sz F) (hk : OkS s) (hn : n < maxLen)
    (hS : ∀ X, Fr w X [b] → S X) (hh : ∀ X, MapS X b (n + 1) (if (F s).isSome then sz else sz + 1) (putS F s r) → Fr w X [b] → wpAnyH Tryz.prog md ops Q S fuel (listed.setIfInBounds i true) (a.put none undef) X) (hs2 : AllReadyH Tryz.prog md ops Q S fuel listed a w rs) : AllReadyH Tryz.prog md ops Q S fuel listed a w (i :: rs) := by
  obtain ⟨X, h1, h2, h3⟩ := ex_updS ho hm hx hy h hk hn
  exact gskp i none hi hd hw h1 (hS X h3) (hh X h2 h3) hs2
theorem RG.Is.stored {R : RG} {W X : World} {n sz n' sz' : Nat} {F F' : ByteArray → Option Nat} (h : R.Is W n sz F) (hf : Fr W X [R.m]) (hm : MapS X R.m n' sz' F') : R.Is X n' sz' F' := by
  have hnd := h.nd
  unfold RG.blocks at hnd
  rw [List.nodup_cons, List.nodup_cons] at hnd
  have hrm : R.r ≠ R.m := fun e => hnd.1 (by rw [e]; exact List.mem_cons_self ..)
  exact ⟨h.hold.block (hf.block _ (h.lt _ (by simp [RG.blocks])) (by simpa using hrm)), h.own.block (fun g hg => hf.block g (h.own.lt g hg).2 (by
    have : g ≠ R.m := fun e => hnd.2.1 (by rw [hg, e]; simp)
    simpa using this)), hm, h.nd, h.ge, h.sml⟩
set_option maxRecDepth 100000 in
theorem for_no (R : RG) (s : ByteArray) (w : World) {n sz : Nat} {F : ByteArray → Option Nat} (hR : R.Is w n sz F) (hT : Tabs w) (hg : (sV s).good = false) : Calls Tryz.prog 14 #[.pointer (some ⟨R.r, 0, none⟩), .string s] w fun e w' => e = .returned (.tuple #[.int .i64 0, .int .i64 5]) ∧ Below w.heap.size w w' := by
  have LL := hide (Hq.nil w [])
  have HT := hide hT
  have HR := hide hR
  have HC := hide (fun X (hX : Tabs X) => str_any s X hX.u)
  change Hid (∀ X, Tabs X → Calls Tryz.prog 30 #[.string s] X fun e w' => e = .returned (VV.made (sV s)).agg ∧ Below X.heap.size X w') at HC
  rw [sV_not hg] at HC
  clear hR hT hg
  go_enter Tryz.func14, Tryz.ntmps14
  go_wp2_with fail
  refine (unhide HC _ (unhide HT)).mono ?_
  rintro e X0 ⟨rfl, hb⟩
  replace LL := hide ((unhide LL).on hb)
  clear hb
  rw [vagg]
  go_wp2_with (first | go_skip | ((with_reducible show wpList _ _ _ _ _ _); first | ((refine alG 35 (zeroV.cs) (by rfl) rfl (fun w => by kernel_rfl) (Nat.succ_pos _) (unhide LL) ?_); intro X1 B1 hE1 L1 hb1; have hB1 := hide (Nat.le_trans (unhide LL).fr.size (Nat.le_of_eq hE1.symm)); replace LL := hide L1; clear L1 hb1 hE1; simp only [Act.put, List.setIfInBounds_toArray, List.set_cons_succ, List.set_cons_zero]) | ((refine st (vs := zeroV.cs) 0 35 (by rfl) rfl rfl rfl rfl (vcs_one _) (siz44) (unhide LL) rfl (by simp [cput, ycs_length, vcs_length, SY.cs, VV.cs]) (Or.inr (unhide hB1)) ?_); intro X2 L2 hf2 hs2; replace LL := hide L2; clear L2 hf2 hs2; simp only [Act.put, List.setIfInBounds_toArray, List.set_cons_succ, List.set_cons_zero]) | ((refine rd (by rfl) (ex_load1 3 Tryz.isAgg3 rfl rfl ((unhide LL).get 0 rfl) rfl) ?_); simp only [Act.put, List.setIfInBounds_toArray, List.set_cons_succ, List.set_cons_zero])))
  go_ret2
  exact ⟨rfl, (unhide LL).fr.below⟩
set_option maxRecDepth 100000 in
theorem for_old (R : RG) (s : ByteArray) (w : World) {n sz : Nat} {F : ByteArray → Option Nat} (hR : R.Is w n sz F) (hT : Tabs w) (hg : (sV s).good = true) (k : Nat) (hF : F s = some k) : Calls Tryz.prog 14 #[.pointer (some ⟨R.r, 0, none⟩), .string s] w fun e w' => e = .returned (.tuple #[.int .i64 (k : Nat), .int .i64 0]) ∧ Below w.heap.size w w' := by
  have LL := hide (Hq.nil w [])
  have HT := hide hT
  have HR := hide hR
  have HC := hide (fun X (hX : Tabs X) => str_any s X hX.u)
  change Hid (∀ X, Tabs X → Calls Tryz.prog 30 #[.string s] X fun e w' => e = .returned (VV.made (sV s)).agg ∧ Below X.heap.size X w') at HC
  rw [sV_made hg] at HC
  have HK : Hid (OkS s ∧ F s = some k) := hide ⟨by have := sV_size hg; unfold OkS maxLen; omega, hF⟩
  clear hR hT hg hF
  go_enter Tryz.func14, Tryz.ntmps14
  go_wp2_with fail
  refine (unhide HC _ (unhide HT)).mono ?_
  rintro e X0 ⟨rfl, hb⟩
  replace LL := hide ((unhide LL).on hb)
  clear hb
  rw [vagg]
  go_wp2_with (first | go_skip | ((with_reducible show wpList _ _ _ _ _ _); first | ((refine alG 35 (zeroV.cs) (by rfl) rfl (fun w => by kernel_rfl) (Nat.succ_pos _) (unhide LL) ?_); intro X1 B1 hE1 L1 hb1; have hB1 := hide (Nat.le_trans (unhide LL).fr.size (Nat.le_of_eq hE1.symm)); replace LL := hide L1; clear L1 hb1 hE1; simp only [Act.put, List.setIfInBounds_toArray, List.set_cons_succ, List.set_cons_zero]) | ((refine st (vs := (sV s).cs) 0 35 (by rfl) rfl rfl rfl rfl (vcs_one _) (siz44) (unhide LL) rfl (by simp [cput, ycs_length, vcs_length, SY.cs, VV.cs]) (Or.inr (unhide hB1)) ?_); intro X2 L2 hf2 hs2; replace LL := hide L2; clear L2 hf2 hs2; simp only [Act.put, List.setIfInBounds_toArray, List.set_cons_succ, List.set_cons_zero]) | ((refine rd (by rfl) (ex_load1 3 Tryz.isAgg3 rfl rfl ((unhide LL).get 0 rfl) rfl) ?_); simp only [Act.put, List.setIfInBounds_toArray, List.set_cons_succ, List.set_cons_zero]) | ((refine rd (by rfl) (ex_load1 70 Tryz.isAgg70 rfl rfl (((unhide HR).fr (unhide LL).fr (by simp)).hold) rfl) ?_); simp only [Act.put, List.setIfInBounds_toArray, List.set_cons_succ, List.set_cons_zero]) | ((refine rd (by rfl) (ex_lookS (r := some k) rfl rfl rfl ((unhide HR).fr (unhide LL).fr (by simp)).map (unhide HK).1 (unhide HK).2) ?_); simp only [Act.put, List.setIfInBounds_toArray, List.set_cons_succ, List.set_cons_zero])))
  go_ret2
  exact ⟨rfl, (unhide LL).fr.below⟩
set_option maxRecDepth 100000 in
theorem for_new (R : RG) (s : ByteArray) (w : World) {n sz : Nat} {F : ByteArray → Option Nat} (hR : R.Is w n sz F) (hT : Tabs w) (hg : (sV s).good = true) (hF : F s = none) (hl : R.l.length < 65536) (hn : n < 100000) : Calls Tryz.prog 14 #[.pointer (some ⟨R.r, 0, none⟩), .string s] w fun e w' => e = .returned (.tuple #[.int .i64 ((R.l.length + 1 : Nat) : Int), .int .i64 0]) ∧ ∃ sv, (RG.mk R.r R.m sv (R.l ++ [⟨sV s, true⟩])).Is w' (n + 1) (sz + 1) (putS F s (R.l.length + 1)) ∧ Fr w w' R.blocks ∧ (∀ g, sv.ownBlock = some g → R.sv.ownBlock = some g ∨ w.heap.size ≤ g) := by
  have LL := hide (Hq.nil w [])
  have HT := hide hT
  have HR := hide hR
  have HC := hide (fun X (hX : Tabs X) => str_any s X hX.u)
  change Hid (∀ X, Tabs X → Calls Tryz.prog 30 #[.string s] X fun e w' => e = .returned (VV.made (sV s)).agg ∧ Below X.heap.size X w') at HC
  rw [sV_made hg] at HC
  have HK : Hid (OkS s ∧ F s = none) := hide ⟨by have := sV_size hg; unfold OkS maxLen; omega, hF⟩
  have HN : Hid (n < maxLen) := hide (by unfold maxLen; omega)
  have HD := hide (fun X (hX : Fr w X []) => add31 R ⟨sV s, true⟩ X (hR.fr hX (by simp)) (hT.fr hX (by simp)).sz hl (sV_size hg))
  unfold SY.agg at HD
  clear hR hT hg hF hl hn
  go_enter Tryz.func14, Tryz.ntmps14
  go_wp2_with fail
  refine (unhide HC _ (unhide HT)).mono ?_
  rintro e X0 ⟨rfl, hb⟩
  replace LL := hide ((unhide LL).on hb)
  clear hb
  rw [vagg]
  go_wp2_with (first | go_skip | ((with_reducible show wpList _ _ _ _ _ _); first | ((refine alG 35 (zeroV.cs) (by rfl) rfl (fun w => by kernel_rfl) (Nat.succ_pos _) (unhide LL) ?_); intro X1 B1 hE1 L1 hb1; have hB1 := hide (Nat.le_trans (unhide LL).fr.size (Nat.le_of_eq hE1.symm)); replace LL := hide L1; clear L1 hb1 hE1; simp only [Act.put, List.setIfInBounds_toArray, List.set_cons_succ, List.set_cons_zero]) | ((refine st (vs := (sV s).cs) 0 35 (by rfl) rfl rfl rfl rfl (vcs_one _) (siz44) (unhide LL) rfl (by simp [cput, ycs_length, vcs_length, SY.cs, VV.cs]) (Or.inr (unhide hB1)) ?_); intro X2 L2 hf2 hs2; replace LL := hide L2; clear L2 hf2 hs2; simp only [Act.put, List.setIfInBounds_toArray, List.set_cons_succ, List.set_cons_zero]) | ((refine rd (by rfl) (ex_load1 3 Tryz.isAgg3 rfl rfl ((unhide LL).get 0 rfl) rfl) ?_); simp only [Act.put, List.setIfInBounds_toArray, List.set_cons_succ, List.set_cons_zero]) | ((refine rd (by rfl) (ex_loadN (vs := (sV s).cs) 35 5 row44 siz44 rfl rfl ((unhide LL).get 0 rfl) rfl rfl) ?_); simp only [Act.put, List.setIfInBounds_toArray, List.set_cons_succ, List.set_cons_zero]) | ((refine rd (by rfl) (ex_load1 70 Tryz.isAgg70 rfl rfl (((unhide HR).fr (unhide LL).fr (by simp)).hold) rfl) ?_); simp only [Act.put, List.setIfInBounds_toArray, List.set_cons_succ, List.set_cons_zero]) | ((refine rd (by rfl) (ex_lookS (r := none) rfl rfl rfl ((unhide HR).fr (unhide LL).fr (by simp)).map (unhide HK).1 (unhide HK).2) ?_); simp only [Act.put, List.setIfInBounds_toArray, List.set_cons_succ, List.set_cons_zero]) | ((refine rd (by rfl) (ex_build77k (v := sV s) rfl rfl rfl) ?_); simp only [Act.put, List.setIfInBounds_toArray, List.set_cons_succ, List.set_cons_zero])))
  replace LL : Hid (Hq w X2 [] [(B1, (sV s).cs)]) := LL
  refine (unhide HD _ (unhide LL).fr).mono ?_
  rintro e X3 ⟨rfl, sv, hI, hF, hS⟩
  have hs2 := (unhide LL).fr.size
  replace LL := hide (((unhide LL).wide R.blocks).step hF (fun b hb => .inl hb) (fun q hq => by obtain rfl : q = (B1, (sV s).cs) := (by simpa using hq); exact fun hm => absurd ((unhide HR).lt _ hm) (by have := unhide hB1; dsimp only; omega)))
  have HS : Hid (∀ g, sv.ownBlock = some g → R.sv.ownBlock = some g ∨ w.heap.size ≤ g) := hide (fun g hg => (hS g hg).imp id (fun h => by omega))
  have HI := hide hI
  clear hI hF hS hs2
  go_wp2
  have hH : Holds X3.drew R.r [sv, .map (some R.m)] := (unhide HI).drew.hold
  have hB : B1 ≠ R.m ∧ R.r ≠ R.m := ⟨fun e => absurd ((unhide HR).lt R.m (by simp [RG.blocks])) (by have := unhide hB1; omega), fun e => by have hnd := (unhide HR).nd; unfold RG.blocks at hnd; rw [List.nodup_cons] at hnd; exact hnd.1 (by rw [e]; exact List.mem_cons_self ..)⟩
  have s0 := And.intro (unhide LL).drew hH
  have hst : ∀ X, Fr X3.drew X [R.m] → (Hq w X R.blocks [(B1, (sV s).cs)] ∧ Holds X R.r [sv, .map (some R.m)]) := fun X hX => ⟨(unhide LL).drew.step hX (fun b hb => .inl (by obtain rfl : b = R.m := (by simpa using hb); simp [RG.blocks])) (fun q hq => by obtain rfl : q = (B1, (sV s).cs) := (by simpa using hq); simpa using hB.1), hH.block (hX.block _ (hH.lt (Nat.succ_pos _)) (by simpa using hB.2))⟩
  have HB := hide hB
  clear hB hH
  refine wp_region_held_drew (P := Tryz.prog) (S := fun X => Hq w X R.blocks [(B1, (sV s).cs)] ∧ Holds X R.r [sv, .map (some R.m)]) (by kernel_rfl) s0 (fun hS0 => ?_)
  refine gsem 0 (some 37) (.pointer (some ⟨R.r, 0, none⟩)) rfl (by kernel_rfl) (by kernel_rfl) (by kernel_rfl) (fun _ _ _ h => h) (by kernel_rfl) (by kernel_rfl) (fun _ _ => by kernel_rfl) s0 ?_
  simp only [Act.put, List.setIfInBounds_toArray, List.set_cons_succ, List.set_cons_zero]
  refine gsem 1 (some 38) (.pointer (some ⟨R.r, 0, none⟩)) rfl (by kernel_rfl) (by kernel_rfl) (by kernel_rfl) (fun _ _ _ h => h) (by kernel_rfl) (by kernel_rfl) (fun _ _ => by kernel_rfl) s0 ?_
  simp only [Act.put, List.setIfInBounds_toArray, List.set_cons_succ, List.set_cons_zero]
  refine gsem 2 (some 39) (.pointer (some ⟨R.r, 1, none⟩)) rfl (by kernel_rfl) (by kernel_rfl) (by kernel_rfl) (fun _ _ _ h => h) (by kernel_rfl) (by kernel_rfl) (fun _ _ => by kernel_rfl) s0 ?_
  simp only [Act.put, List.setIfInBounds_toArray, List.set_cons_succ, List.set_cons_zero]
  refine gsem 3 (some 40) (.map (some R.m)) rfl (by kernel_rfl) (by kernel_rfl) (by kernel_rfl) (fun _ _ _ h => h) (by kernel_rfl) (by kernel_rfl) (fun X hX => ex_load1 70 Tryz.isAgg70 rfl rfl (hX.2) rfl) s0 ?_
  simp only [Act.put, List.setIfInBounds_toArray, List.set_cons_succ, List.set_cons_zero]
  refine gsem 4 (some 41) (.pointer (some ⟨B1, 3, none⟩)) rfl (by kernel_rfl) (by kernel_rfl) (by kernel_rfl) (fun _ _ _ h => h) (by kernel_rfl) (by kernel_rfl) (fun _ _ => by kernel_rfl) s0 ?_
  simp only [Act.put, List.setIfInBounds_toArray, List.set_cons_succ, List.set_cons_zero]
  refine gsem 5 (some 42) (.string s) rfl (by kernel_rfl) (by kernel_rfl) (by kernel_rfl) (fun _ _ _ h => h) (by kernel_rfl) (by kernel_rfl) (fun X hX => ex_load1 9 Tryz.isAgg9 rfl rfl (hX.1.get 0 rfl) rfl) s0 ?_
  simp only [Act.put, List.setIfInBounds_toArray, List.set_cons_succ, List.set_cons_zero]
  refine gsem 6 (some 43) (.int .i64 ((R.l.length + 1 : Nat) : Int)) rfl (by kernel_rfl) (by kernel_rfl) (by kernel_rfl) (fun _ _ _ h => h) (by kernel_rfl) (by kernel_rfl) (fun _ _ => by kernel_rfl) s0 ?_
  simp only [Act.put, List.setIfInBounds_toArray, List.set_cons_succ, List.set_cons_zero]
  refine wpAnyH_ready (rs := [7]) (by kernel_rfl) (by simp) (gupdS (F := F) (n := n) (sz := sz) (s := s) (r := R.l.length + 1) 7 rfl (by kernel_rfl) (by kernel_rfl) rfl rfl rfl rfl (unhide HI).drew.map (unhide HK).1 (unhide HN) hst ?_ AllReadyH.nil)
  intro X4 hM hX4
  rw [(unhide HK).2] at hM
  have HM := hide (And.intro ((unhide HI).drew.stored hX4 hM) ((hst X4 hX4).1.fr))
  clear hst hM hX4 s0 hS0
  simp only [Act.put, List.setIfInBounds_toArray, List.set_cons_succ, List.set_cons_zero]
  refine wpAnyH_done (by kernel_rfl) ?_ _
  try simp only [Act.put, List.setIfInBounds_toArray, List.set_cons_succ, List.set_cons_zero]
  clear LL
  go_wp2
  go_ret2
  exact ⟨rfl, sv, (unhide HM).1, (unhide HM).2, unhide HS⟩
end Go.Proofs.YtkpfikeggleenaaGreatDoor
