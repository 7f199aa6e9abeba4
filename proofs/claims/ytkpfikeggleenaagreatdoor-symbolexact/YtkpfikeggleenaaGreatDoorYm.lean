import Derived.Test.YtkpfikeggleenaaGreatDoorYj
namespace Go.Proofs.YtkpfikeggleenaaGreatDoor
open Go Go.Proofs Go.Maps Go.RowKit
set_option linter.unusedSimpArgs false
set_option linter.unusedVariables false
set_option maxHeartbeats 1000000
/-! The document's registry. -/
structure RF where
  r : Nat
  sv : Value
  l : List SY
structure RF.Is (R : RF) (W : World) : Prop where
  hold : Holds W R.r [R.sv]
  own : OwnS 81 W R.sv R.l
  ne : ∀ g, R.sv.ownBlock = some g → g ≠ R.r
  ge : 5 ≤ R.r
def RF.blocks (R : RF) : List Nat := R.r :: R.sv.ownBlock.toList
section
variable {R : RF} {W W' : World}
theorem RF.Is.lt (h : R.Is W) : ∀ b ∈ R.blocks, b < W.heap.size := by
  intro b hb
  simp only [RF.blocks, List.mem_cons] at hb
  rcases hb with rfl | hb
  · exact h.hold.lt (by simp)
  · exact (h.own.lt b (by simpa using hb)).2
theorem RF.Is.block (h : R.Is W) (he : ∀ b ∈ R.blocks, W'.heap[b]? = W.heap[b]?) : R.Is W' :=
  ⟨h.hold.block (he _ (by simp [RF.blocks])), h.own.block (fun g hg => he g (by simp [RF.blocks, hg])), h.ne, h.ge⟩
theorem RF.Is.on (h : R.Is W) (hb : Below W.heap.size W W') : R.Is W' := h.block (fun b hb' => hb.block b (h.lt b hb'))
theorem RF.Is.fr {E : List Nat} (h : R.Is W) (hb : Fr W W' E) (hE : ∀ b ∈ R.blocks, b ∉ E) : R.Is W' := h.block (fun b hb' => hb.block b (h.lt b hb') (hE b hb'))
theorem RF.Is.drew (h : R.Is W) : R.Is W.drew := h.block (fun _ _ => rfl)
end
theorem RF.Is.added {r c : Nat} {sv : Value} {l : List SY} {y : SY} {Ad : Option Addr} {w X6 X7 X8 : World} (h : (RF.mk r sv l).Is w) (h6 : Fr w X6 []) (ho : X7.ownsRow 5 81 6 (.slice Ad (l.length + 1) c) (l.length + 1) (flatS l ++ y.cs)) (hg : X6.grownBy X7 sv.ownBlock) (hf : Fresh X6 sv (.slice Ad (l.length + 1) c))
    (h8 : Fr X7 X8 [r]) (hh : Holds X8 r [.slice Ad (l.length + 1) c]) :
    (RF.mk r (.slice Ad (l.length + 1) c) (l ++ [y])).Is X8 ∧ Fr w X8 (RF.mk r sv l).blocks ∧ (∀ g, (Value.slice Ad (l.length + 1) c).ownBlock = some g → sv.ownBlock = some g ∨ w.heap.size ≤ g) := by
  have hr : r < w.heap.size := h.lt r (by simp [RF.blocks])
  have f7 : Fr w X7 sv.ownBlock.toList := (h6.mono (by simp)).trans (Fr.grown hg) (fun b hb => .inl hb)
  have f8 : Fr w X8 (RF.mk r sv l).blocks := (f7.mono (fun b hb => .inl (by unfold RF.blocks; exact List.mem_cons_of_mem _ hb))).trans h8 (fun b hb => .inl (by
    obtain rfl : b = r := by simpa using hb
    exact List.mem_cons_self ..))
  have hs6 := h6.size
  have hown : ∀ g, (Value.slice Ad (l.length + 1) c).ownBlock = some g → sv.ownBlock = some g ∨ w.heap.size ≤ g := fun g hg => by
    rcases hf with e | e
    · exact .inl (e ▸ hg)
    · rw [e] at hg
      have : X6.heap.size = g := by simpa using hg
      exact .inr (by omega)
  have hne : ∀ g, (Value.slice Ad (l.length + 1) c).ownBlock = some g → g ≠ r := fun g hg => by
    rcases hown g hg with e | e
    · exact h.ne g e
    · omega
  have hoS : OwnS 81 X7 (.slice Ad (l.length + 1) c) (l ++ [y]) := by
    unfold OwnS
    rw [flatS_append, flatS_one, List.length_append]
    exact ho
  exact ⟨⟨hh, hoS.block (fun g hg => h8.block g (hoS.lt g hg).2 (by simpa using hne g hg)), hne, h.ge⟩, f8, hown⟩
theorem ex_indexA {o : Oper} {a : Act} {w : World} {x ix : Operand} {g off : Nat} (t : TypeId) (n sz j : Nat) (hk : Tryz.prog.underlying t = some (.array (Tryz.prog.arrayLen t) (Tryz.prog.elem t))) (hn : Tryz.prog.arrayLen t = n) (he : ∀ w, (sizeOf (Tryz.prog.elem t)).run Tryz.prog w = .ok sz w) (ho : o.op = .indexAddr t x ix) (hx : a.eval x = .pointer (some ⟨g, off, none⟩)) (hix : a.eval ix = .int .i64 (j : Nat)) (hj : j < n) : (execOp a.eval o).run Tryz.prog w = .ok (.value (.pointer (some ⟨g, off + j * sz, none⟩))) w := by
  have h1 : (Instr.indexAt t (.pointer (some ⟨g, off, none⟩)) (.int .i64 (j : Nat))).run Tryz.prog w = .ok (.pointer (some ⟨g, off + j * sz, none⟩)) w := by
    rw [run_indexAt_array (h := hk), hn, if_pos ⟨by omega, by omega⟩, he]
    have e2 : (Addr.add ⟨g, off, none⟩ ((j : Int).toNat * sz)) = ⟨g, off + j * sz, none⟩ := by
      rw [Addr.add_mid]
      simp
    show Result.ok (Value.pointer (some (Addr.add ⟨g, off, none⟩ ((j : Int).toNat * sz)))) w = _
    rw [e2]
  unfold execOp
  simp only [ho, hx, hix]
  simp [h1]
theorem und58 : Tryz.prog.underlying 74 = some (.array (Tryz.prog.arrayLen 74) (Tryz.prog.elem 74)) := by kernel_rfl
theorem len58 : Tryz.prog.arrayLen 74 = 13 := by kernel_rfl
theorem idx58 (w : World) : (sizeOf (Tryz.prog.elem 74)).run Tryz.prog w = .ok 1 w := by kernel_rfl
def dot7 : ByteArray := ⟨#[83, 121, 109, 98, 111, 108, 46]⟩
theorem dot_all : ∀ p ∈ nmL.zip wkL, dot7 ++ p.1 = p.2 := by
  intro p hp
  simp only [nmL, wkL, List.zip_cons_cons, List.mem_cons, List.zip_nil_left, List.not_mem_nil, or_false] at hp
  rcases hp with rfl | rfl | rfl | rfl | rfl | rfl | rfl | rfl | rfl | rfl | rfl | rfl | rfl
  · kernel_rfl
  · kernel_rfl
  · kernel_rfl
  · kernel_rfl
  · kernel_rfl
  · kernel_rfl
  · kernel_rfl
  · kernel_rfl
  · kernel_rfl
  · kernel_rfl
  · kernel_rfl
  · kernel_rfl
  · kernel_rfl
theorem nm_small' : (nmL.all fun s => decide (s.size ≤ 1000)) = true := by kernel_rfl
theorem nm_small {s : ByteArray} (h : s ∈ nmL) : s.size ≤ 1000 := by
  have := List.all_eq_true.1 nm_small' s h
  simpa using this
theorem nmL_length : nmL.length = 13 := rfl
theorem nm_get {i : Nat} {s : ByteArray} (h : wkL[i]? = some s) : ∃ t, nmL[i]? = some t ∧ dot7 ++ t = s ∧ t.size ≤ 1000 := by
  obtain ⟨hi, hs⟩ := List.getElem?_eq_some_iff.1 h
  have hi' : i < nmL.length := by rw [nmL_length]; rwa [wkL_length] at hi
  refine ⟨nmL[i], List.getElem?_eq_getElem hi', ?_, nm_small (List.getElem_mem _)⟩
  have := dot_all (nmL[i], wkL[i]) (List.mem_iff_getElem.2 ⟨i, by rw [List.length_zip, nmL_length, wkL_length]; rw [wkL_length] at hi; omega, by simp; rfl⟩)
  rw [← hs]
  exact this
set_option maxRecDepth 100000 in
theorem refWK_out (i : Int) (w : World) (h : i < 1 ∨ (13 : Int) < i) : Calls Tryz.prog 31 #[.int .i64 i] w fun e w' => e = .returned (.tuple #[.string ⟨#[]⟩, .bool false]) ∧ w' = w := by
  by_cases h1 : i < 1
  · have h2 : decide (i < 1) = true := decide_eq_true h1
    clear h h1
    go_enter Tryz.func31, Tryz.ntmps31
    go_wp2
    go_ret2
    exact ⟨rfl, rfl⟩
  · have h2 : decide (i < 1) = false := decide_eq_false h1
    have h3 : decide ((13 : Int) < i) = true := decide_eq_true (by omega)
    clear h h1
    go_enter Tryz.func31, Tryz.ntmps31
    go_wp2
    go_ret2
    exact ⟨rfl, rfl⟩
set_option maxRecDepth 100000 in
theorem refWK_in (i : Nat) (s : ByteArray) (w : World) (h : wkL[i]? = some s) (hN : Nm w) : Calls Tryz.prog 31 #[.int .i64 ((i + 1 : Nat) : Int)] w fun e w' => e = .returned (.tuple #[.string s, .bool true]) ∧ w' = w := by
  obtain ⟨t, ht, he, hs⟩ := nm_get h
  have hi := (List.getElem?_eq_some_iff.1 h).1
  rw [wkL_length] at hi
  subst he
  have HC : Hid (w.cell? ⟨1, 0 + i * 1, none⟩ = some (.string t)) := hide (by have := hN.1 i (.string t) (by unfold nmCs; rw [List.getElem?_map, ht]; rfl); simpa using this)
  have HI := hide hi
  have HI2 : Hid (i < 1000000) := hide (by omega)
  have HS : Hid (dot7.size + t.size ≤ 100000) := hide (by have : dot7.size = 7 := rfl; omega)
  have h1 : decide (((i + 1 : Nat) : Int) < 1) = false := decide_eq_false (by omega)
  have h2 : decide ((13 : Int) < ((i + 1 : Nat) : Int)) = false := decide_eq_false (by omega)
  clear h ht hs hi hN
  obtain ⟨J, hJ⟩ : ∃ J : Int, J = ((i + 1 : Nat) : Int) := ⟨_, rfl⟩
  have HJ := hide hJ
  rw [← hJ] at h1 h2 ⊢
  clear hJ
  go_enter Tryz.func31, Tryz.ntmps31
  go_wp2_with (first | go_skip | ((with_reducible show wpList _ _ _ _ _ _); first | ((refine rd (by rfl) (ex_sub1 rfl (congrArg _ (unhide HJ)) rfl (unhide HI2)) ?_); simp only [Act.put, List.setIfInBounds_toArray, List.set_cons_succ, List.set_cons_zero]) | ((refine rd (by rfl) (ex_indexA 74 13 1 i und58 len58 idx58 rfl rfl rfl (unhide HI)) ?_); simp only [Act.put, List.setIfInBounds_toArray, List.set_cons_succ, List.set_cons_zero]) | ((refine rd (by rfl) (ex_loadC 9 Tryz.isAgg9 rfl rfl (unhide HC)) ?_); simp only [Act.put, List.setIfInBounds_toArray, List.set_cons_succ, List.set_cons_zero]) | ((refine rd (by rfl) (ex_cat (s := dot7) rfl rfl rfl (unhide HS)) ?_); simp only [Act.put, List.setIfInBounds_toArray, List.set_cons_succ, List.set_cons_zero])))
  go_ret2
  exact ⟨rfl, rfl⟩
theorem ex_build44s {o : Oper} {a : Act} {w : World} {x y : Operand} {s : ByteArray} (ho : o.op = .build 35 #[(0, x), (3, y)]) (hx : a.eval x = .int .i64 5) (hy : a.eval y = .string s) : (execOp a.eval o).run Tryz.prog w = .ok (.value (.agg (sV s).cs.toArray)) w := by
  have e : (Instr.build 35 #[(0, .int .i64 5), (3, .string s)]).run Tryz.prog w = .ok (.agg (sV s).cs.toArray) w := by kernel_rfl
  unfold execOp
  simp only [ho, List.map_toArray, List.map_cons, List.map_nil, hx, hy]
  simp [e]
set_option maxRecDepth 100000 in
theorem refStr38 (s : ByteArray) (w : World) : Calls Tryz.prog 32 #[.string s] w fun e w' => e = .returned (sV s).agg ∧ Below w.heap.size w w' := by
  have LL := hide (Hq.nil w [])
  rw [vagg]
  go_enter Tryz.func32, Tryz.ntmps32
  go_wp2_with (first | go_skip | ((with_reducible show wpList _ _ _ _ _ _); first | ((refine alG 35 (zeroV.cs) (by rfl) rfl (fun w => by kernel_rfl) (Nat.succ_pos _) (unhide LL) ?_); intro X1 B1 hE1 L1 hb1; have hB1 := hide (Nat.le_trans (unhide LL).fr.size (Nat.le_of_eq hE1.symm)); replace LL := hide L1; clear L1 hb1 hE1; simp only [Act.put, List.setIfInBounds_toArray, List.set_cons_succ, List.set_cons_zero]) | ((refine rd (by rfl) (ex_build44s (s := s) rfl rfl rfl) ?_); simp only [Act.put, List.setIfInBounds_toArray, List.set_cons_succ, List.set_cons_zero]) | ((refine st (vs := (sV s).cs) 0 35 (by rfl) rfl rfl rfl rfl (vcs_one _) (siz44) (unhide LL) rfl (by simp [cput, ycs_length, vcs_length, SY.cs, VV.cs]) (Or.inr (unhide hB1)) ?_); intro X2 L2 hf2 hs2; replace LL := hide L2; clear L2 hf2 hs2; simp only [Act.put, List.setIfInBounds_toArray, List.set_cons_succ, List.set_cons_zero])))
  exact ret_c row44 siz44 rfl rfl rfl ((unhide LL).get 0 rfl) rfl ⟨rfl, (unhide LL).fr.below⟩
theorem ex_build88 {o : Oper} {a : Act} {w : World} {x : Operand} {v : VV} (ho : o.op = .build 81 #[(0, x)]) (hx : a.eval x = .agg v.cs.toArray) : (execOp a.eval o).run Tryz.prog w = .ok (.value (.agg (SY.mk v false).cs.toArray)) w := by
  have e : (Instr.build 81 #[(0, .agg v.cs.toArray)]).run Tryz.prog w = .ok (.agg (SY.mk v false).cs.toArray) w := by kernel_rfl
  unfold execOp
  simp only [ho, List.map_toArray, List.map_cons, List.map_nil, hx]
  simp [e]
theorem ex_build70 {o : Oper} {a : Act} {w : World} (ho : o.op = .build 41 #[]) : (execOp a.eval o).run Tryz.prog w = .ok (.value (.agg #[.slice none 0 0])) w := by
  have e : (Instr.build 41 #[]).run Tryz.prog w = .ok (.agg #[.slice none 0 0]) w := by kernel_rfl
  unfold execOp
  simp only [ho, List.map_toArray, List.map_nil]
  simp [e]
theorem info88 : (Tryz.prog.info? 81).map (fun i => (i.zero, i.size, i.bytes)) = some (some (.agg zeroY.cs.toArray), 6, 56) := by kernel_rfl
theorem siz68 : (Tryz.prog.info? 39).map (·.size) = some 1 := by kernel_rfl
def FI (w wr : World) (r : Nat) (ll : List SY) : Prop := ∃ sv, (RF.mk r sv ll).Is wr ∧ Fr w wr [] ∧ (∀ b ∈ (RF.mk r sv ll).blocks, w.heap.size ≤ b)
theorem ex_add1n {o : Oper} {a : Act} {w : World} {x y : Operand} {n : Nat} (ho : o.op = .binOp .add 3 x y 3) (hx : a.eval x = .int .i64 ((n + 1 : Nat) : Int)) (hc : a.eval y = .int .i64 1) (hn : n < 1000) : (execOp a.eval o).run Tryz.prog w = .ok (.value (.int .i64 ((n + 1 + 1 : Nat) : Int))) w := by
  unfold execOp
  simp only [ho, hx, hc]
  have e : IntKind.i64.wrap (((n + 1 : Nat) : Int) + 1) = ((n + 1 + 1 : Nat) : Int) := by
    rw [IntKind.wrap_i64]
    omega
  simp [go_sem, eqGuard]
  rw [IntKind.wrap_i64]
  omega
set_option maxRecDepth 100000 in
theorem refNew22 (w : World) (hN : Nm w) : Calls Tryz.prog 10 #[] w fun e w' => ∃ R : RF, e = .returned (.pointer (some ⟨R.r, 0, none⟩)) ∧ R.Is w' ∧ R.l = wkY ∧ (∀ b ∈ R.blocks, w.heap.size ≤ b) ∧ Below w.heap.size w w' := by
  have HN := hide hN
  have LL := hide (Hq.nil w [])
  clear hN
  go_enter Tryz.func10, Tryz.ntmps10
  go_wp2_with (first | go_skip | ((with_reducible show wpList _ _ _ _ _ _); first | ((refine rd (by rfl) (ex_build70 rfl) ?_); simp only [Act.put, List.setIfInBounds_toArray, List.set_cons_succ, List.set_cons_zero]) | ((refine bx 41 ([.slice none 0 0]) (by rfl) rfl rfl rfl (Nat.succ_pos _) (unhide LL) ?_); intro X1 B1 hE1 L1 hb1; have hB1 := hide (Nat.le_trans (unhide LL).fr.size (Nat.le_of_eq hE1.symm)); replace LL := hide L1; clear L1 hb1 hE1; simp only [Act.put, List.setIfInBounds_toArray, List.set_cons_succ, List.set_cons_zero])))
  go_loopg [2] 13 (fun gm s2 wr => ∃ i : Nat, s2 = .int .i64 ((i + 1 : Nat) : Int) ∧ i ≤ 13 ∧ 13 - i ≤ gm ∧ Hid (FI w wr B1 (wkY.take i)))
  case atStart =>
    have h5 := (unhide HN).2
    have hB := unhide hB1
    refine ⟨0, rfl, by omega, by omega, hide ⟨.slice none 0 0, ⟨(unhide LL).get 0 rfl, OwnS.nil _ _, (fun g hg => by cases hg), Nat.le_trans h5 hB⟩, (unhide LL).fr, ?_⟩⟩
    intro b hb
    simp [RF.blocks, Value.ownBlock] at hb
    subst hb
    exact hB
  case round =>
    obtain ⟨i, rfl, hi, hgm, HI⟩ := hrel
    by_cases hlt : i < 13
    · have hlz : decide (((i + 1 : Nat) : Int) ≤ 13) = true := decide_eq_true (by omega)
      obtain ⟨sv, HI2⟩ := unhide HI
      replace HI2 := hide HI2
      have HLT := hide hlt
      have HI3 : Hid (i < 1000) := hide (by omega)
      obtain ⟨A, c, hv⟩ := (unhide HI2).1.own.form
      dsimp only at hv
      subst hv
      obtain ⟨s, hs⟩ : ∃ s, wkL[i]? = some s := ⟨_, List.getElem?_eq_getElem (by rw [wkL_length]; exact hlt)⟩
      have HS := hide hs
      have HW := hide (refWK_in i s wr hs ((unhide HN).fr (unhide HI2).2.1 (by simp)))
      clear hs hlt
      obtain ⟨J, hJ⟩ : ∃ J : Int, J = ((i + 1 : Nat) : Int) := ⟨_, rfl⟩
      have HJ := hide hJ
      rw [← hJ] at hlz HW ⊢
      clear hJ
      go_wp2_with fail
      refine (unhide HW).mono ?_
      rintro e X9 ⟨rfl, h9⟩
      rw [h9]
      clear h9 X9 HW
      go_wp2_with fail
      have hs := unhide HS
      have hI0 := (unhide HI2).1.drew
      have h0 := hI0.hold
      have O0 := hI0.own
      have h5 : 5 ≤ wr.drew.heap.size := Nat.le_trans (unhide HN).2 (unhide HI2).2.1.size
      have hne := hI0.ne
      have HC : ∀ X, Below wr.drew.heap.size wr.drew X → Calls Tryz.prog 32 #[.string s] X fun e w' => e = .returned (sV s).agg ∧ Below X.heap.size X w' := fun X _ => refStr38 s X
      have hln : (wkY.take i).length ≤ 13 := by rw [List.length_take, wkY_length]; omega
      refine wp_region_held_drew (P := Tryz.prog) (S := fun _ => True) (by kernel_rfl) trivial (fun hS0 => ?_)
      refine gsem 0 (some 16) (.pointer (some ⟨B1, 0, none⟩)) rfl (by kernel_rfl) (by kernel_rfl) (by kernel_rfl) (fun _ _ _ h => h) (by kernel_rfl) (by kernel_rfl) (fun _ _ => by kernel_rfl) trivial ?_
      simp only [Act.put, List.setIfInBounds_toArray, List.set_cons_succ, List.set_cons_zero]
      refine gsem 1 (some 17) (.pointer (some ⟨B1, 0, none⟩)) rfl (by kernel_rfl) (by kernel_rfl) (by kernel_rfl) (fun _ _ _ h => h) (by kernel_rfl) (by kernel_rfl) (fun _ _ => by kernel_rfl) trivial ?_
      simp only [Act.put, List.setIfInBounds_toArray, List.set_cons_succ, List.set_cons_zero]
      refine gsem 2 (some 18) (.pointer (some ⟨B1, 0, none⟩)) rfl (by kernel_rfl) (by kernel_rfl) (by kernel_rfl) (fun _ _ _ h => h) (by kernel_rfl) (by kernel_rfl) (fun _ _ => by kernel_rfl) trivial ?_
      simp only [Act.put, List.setIfInBounds_toArray, List.set_cons_succ, List.set_cons_zero]
      refine gsem 3 (some 19) (.pointer (some ⟨B1, 0, none⟩)) rfl (by kernel_rfl) (by kernel_rfl) (by kernel_rfl) (fun _ _ _ h => h) (by kernel_rfl) (by kernel_rfl) (fun _ _ => by kernel_rfl) trivial ?_
      simp only [Act.put, List.setIfInBounds_toArray, List.set_cons_succ, List.set_cons_zero]
      refine gsem 5 (some 21) (.string s) rfl (by kernel_rfl) (by kernel_rfl) (by kernel_rfl) (fun _ _ _ h => h) (by kernel_rfl) (by kernel_rfl) (fun _ _ => by kernel_rfl) trivial ?_
      simp only [Act.put, List.setIfInBounds_toArray, List.set_cons_succ, List.set_cons_zero]
      refine wpAnyH_ready (rs := [4, 6]) (by kernel_rfl) (by simp) (gval 4 (some 20) rfl (by kernel_rfl) (by kernel_rfl) (ex_load1 39 Tryz.isAgg39 rfl rfl h0 rfl) trivial ?_ (gcallR 6 (some 22) rfl (by kernel_rfl) (by kernel_rfl) (by kernel_rfl) (HC _ (Below.refl _ _)) ?_ AllReadyH.nil))
      · simp only [Act.put, List.setIfInBounds_toArray, List.set_cons_succ, List.set_cons_zero]
        refine wpAnyH_ready (rs := [6]) (by kernel_rfl) (by simp) (gcallR 6 (some 22) rfl (by kernel_rfl) (by kernel_rfl) (by kernel_rfl) (HC _ (Below.refl _ _)) ?_ AllReadyH.nil)
        rintro e X6 ⟨rfl, hb6⟩
        refine ⟨_, rfl, trivial, ?_⟩
        rw [vagg]
        simp only [Act.put, List.setIfInBounds_toArray, List.set_cons_succ, List.set_cons_zero]
        have h6 := h0.block (hb6.block B1 (h0.lt (Nat.succ_pos _)))
        have O6 : OwnS 81 X6 (.slice A (wkY.take i).length c) ((wkY.take i)) := O0.block (fun g hg => hb6.block g (O0.lt g hg).2)
        have bl := (Below.refl X6.heap.size X6).alloc (Nat.le_refl _) (Obj.cells (SY.mk (sV s) false).cs.toArray 81)
        have h8 := h6.block (bl.block B1 (h6.lt (Nat.succ_pos _)))
        have O8 : OwnS 81 _ (.slice A (wkY.take i).length c) ((wkY.take i)) := O6.block (fun g hg => bl.block g (O6.lt g hg).2)
        have hN8 := Holds.new X6 (SY.mk (sV s) false).cs 81
        have F8 := (Fr.of_below hb6 []).on bl
        refine gsem 7 (some 23) (.agg (SY.mk (sV s) false).cs.toArray) rfl (by kernel_rfl) (by kernel_rfl) (by kernel_rfl) (fun _ _ _ h => h) (by kernel_rfl) (by kernel_rfl) (fun X hX => ex_build88 (v := sV s) rfl rfl) trivial ?_
        simp only [Act.put, List.setIfInBounds_toArray, List.set_cons_succ, List.set_cons_zero]
        refine wpAnyH_ready (rs := [8]) (by kernel_rfl) (by simp) (gval 8 (some 24) rfl (by kernel_rfl) (by kernel_rfl) (ex_buildS (e := 81) (size := 6) (bytes := 56) (cs := (SY.mk (sV s) false).cs) rfl rfl Tryz.underlying39 info88 (by decide) rfl rfl (by decide)) trivial ?_ AllReadyH.nil)
        simp only [Act.put, List.setIfInBounds_toArray, List.set_cons_succ, List.set_cons_zero]
        generalize hX8 : X6.alloc (Obj.cells (SY.mk (sV s) false).cs.toArray 81) = X8 at *
        generalize hB8 : X6.heap.size = B8 at *
        refine wpAnyH_ready (rs := [9]) (by kernel_rfl) (by simp) (gappF (base := 5) (v := .slice A (wkY.take i).length c) (xs := flatS ((wkY.take i))) (news := (SY.mk (sV s) false).cs) 9 (some 25) rfl (by kernel_rfl) (by kernel_rfl) rfl rfl rfl Tryz.underlying39 info88 rfl (by decide) O8 hN8 rfl (ycs_one _) (by omega) (by decide) (Nat.le_trans h5 F8.size) (fun _ _ => trivial) ?_ AllReadyH.nil)
        intro A9 c9 X9 O9 hg9 hf9
        have h9 : Holds X9 B1 [.slice A (wkY.take i).length c] := h8.block (hg9.block B1 (h8.lt (Nat.succ_pos _)) (fun e => hne B1 e.symm rfl))
        simp only [Act.put, List.setIfInBounds_toArray, List.set_cons_succ, List.set_cons_zero]
        refine gsem 10 (some 26) (.pointer (some ⟨B1, 0, none⟩)) rfl (by kernel_rfl) (by kernel_rfl) (by kernel_rfl) (fun _ _ _ h => h) (by kernel_rfl) (by kernel_rfl) (fun _ _ => by kernel_rfl) trivial ?_
        simp only [Act.put, List.setIfInBounds_toArray, List.set_cons_succ, List.set_cons_zero]
        refine gsem 11 (some 27) (.pointer (some ⟨B1, 0, none⟩)) rfl (by kernel_rfl) (by kernel_rfl) (by kernel_rfl) (fun _ _ _ h => h) (by kernel_rfl) (by kernel_rfl) (fun _ _ => by kernel_rfl) trivial ?_
        simp only [Act.put, List.setIfInBounds_toArray, List.set_cons_succ, List.set_cons_zero]
        have h12 := h9.put 0 [.slice A9 ((wkY.take i).length + 1) c9] (by simp)
        have f12 := Fr.setCells X9 B1 0 [.slice A9 ((wkY.take i).length + 1) c9]
        refine wpAnyH_ready (rs := [12]) (by kernel_rfl) (by simp) (gskp 12 none rfl (by kernel_rfl) (by kernel_rfl) (ex_store (t := 39) (b := B1) (p := 0) (vs := [.slice A9 ((wkY.take i).length + 1) c9]) rfl rfl rfl rfl (by simp [Value.oneCell']) siz68 h9 (by simp)) trivial ?_ AllReadyH.nil)
        simp only [Act.put, List.setIfInBounds_toArray, List.set_cons_succ, List.set_cons_zero]
        refine wpAnyH_done (by kernel_rfl) ?_ _
        try simp only [Act.put, List.setIfInBounds_toArray, List.set_cons_succ, List.set_cons_zero]
        generalize X9.setCells B1 0 [.slice A9 ((wkY.take i).length + 1) c9] = X12 at *
        have FIN := RF.Is.added hI0 F8 O9 hg9 hf9 f12 h12
        have HFIN : Hid (FI w X12 B1 (wkY.take (i + 1))) := hide (by
          rw [wkY_take i hs]
          refine ⟨_, FIN.1, (unhide HI2).2.1.drew.trans FIN.2.1 (fun b hb => .inr ((unhide HI2).2.2 b hb)), fun b hb => ?_⟩
          unfold RF.blocks at hb
          simp only [List.mem_cons] at hb
          rcases hb with rfl | hb
          · exact (unhide HI2).2.2 _ (by simp [RF.blocks])
          · rcases FIN.2.2 b (by simpa using hb) with e | e
            · exact (unhide HI2).2.2 b (by unfold RF.blocks; exact List.mem_cons_of_mem _ (by rw [e]; simp))
            · exact Nat.le_trans (unhide HI2).2.1.drew.size e)
        clear FIN h12 f12 h9 O9 hg9 hf9 hN8 F8 O8 h8 h6 O6 bl hb6 h0 O0 hI0 HC hne h5 hX8 hB8 hS0
        go_wp2_with (first | go_skip | ((with_reducible show wpList _ _ _ _ _ _); first | ((refine rd (by rfl) (ex_add1n rfl (congrArg _ (unhide HJ)) rfl (unhide HI3)) ?_); simp only [Act.put, List.setIfInBounds_toArray, List.set_cons_succ, List.set_cons_zero])))
        go_roundg (13 - (i + 1))
        case measure => have := unhide HLT; omega
        case rel => exact ⟨i + 1, rfl, by have := unhide HLT; omega, by omega, HFIN⟩
      · rintro e X6 ⟨rfl, hb6⟩
        refine ⟨_, rfl, trivial, ?_⟩
        rw [vagg]
        simp only [Act.put, List.setIfInBounds_toArray, List.set_cons_succ, List.set_cons_zero]
        have h6 := h0.block (hb6.block B1 (h0.lt (Nat.succ_pos _)))
        have O6 : OwnS 81 X6 (.slice A (wkY.take i).length c) ((wkY.take i)) := O0.block (fun g hg => hb6.block g (O0.lt g hg).2)
        have bl := (Below.refl X6.heap.size X6).alloc (Nat.le_refl _) (Obj.cells (SY.mk (sV s) false).cs.toArray 81)
        have h8 := h6.block (bl.block B1 (h6.lt (Nat.succ_pos _)))
        have O8 : OwnS 81 _ (.slice A (wkY.take i).length c) ((wkY.take i)) := O6.block (fun g hg => bl.block g (O6.lt g hg).2)
        have hN8 := Holds.new X6 (SY.mk (sV s) false).cs 81
        have F8 := (Fr.of_below hb6 []).on bl
        refine gsem 7 (some 23) (.agg (SY.mk (sV s) false).cs.toArray) rfl (by kernel_rfl) (by kernel_rfl) (by kernel_rfl) (fun _ _ _ h => h) (by kernel_rfl) (by kernel_rfl) (fun X hX => ex_build88 (v := sV s) rfl rfl) trivial ?_
        simp only [Act.put, List.setIfInBounds_toArray, List.set_cons_succ, List.set_cons_zero]
        refine wpAnyH_ready (rs := [4, 8]) (by kernel_rfl) (by simp) (gval 4 (some 20) rfl (by kernel_rfl) (by kernel_rfl) (ex_load1 39 Tryz.isAgg39 rfl rfl h6 rfl) trivial ?_ (gval 8 (some 24) rfl (by kernel_rfl) (by kernel_rfl) (ex_buildS (e := 81) (size := 6) (bytes := 56) (cs := (SY.mk (sV s) false).cs) rfl rfl Tryz.underlying39 info88 (by decide) rfl rfl (by decide)) trivial ?_ AllReadyH.nil))
        · simp only [Act.put, List.setIfInBounds_toArray, List.set_cons_succ, List.set_cons_zero]
          refine wpAnyH_ready (rs := [8]) (by kernel_rfl) (by simp) (gval 8 (some 24) rfl (by kernel_rfl) (by kernel_rfl) (ex_buildS (e := 81) (size := 6) (bytes := 56) (cs := (SY.mk (sV s) false).cs) rfl rfl Tryz.underlying39 info88 (by decide) rfl rfl (by decide)) trivial ?_ AllReadyH.nil)
          simp only [Act.put, List.setIfInBounds_toArray, List.set_cons_succ, List.set_cons_zero]
          generalize hX8 : X6.alloc (Obj.cells (SY.mk (sV s) false).cs.toArray 81) = X8 at *
          generalize hB8 : X6.heap.size = B8 at *
          refine wpAnyH_ready (rs := [9]) (by kernel_rfl) (by simp) (gappF (base := 5) (v := .slice A (wkY.take i).length c) (xs := flatS ((wkY.take i))) (news := (SY.mk (sV s) false).cs) 9 (some 25) rfl (by kernel_rfl) (by kernel_rfl) rfl rfl rfl Tryz.underlying39 info88 rfl (by decide) O8 hN8 rfl (ycs_one _) (by omega) (by decide) (Nat.le_trans h5 F8.size) (fun _ _ => trivial) ?_ AllReadyH.nil)
          intro A9 c9 X9 O9 hg9 hf9
          have h9 : Holds X9 B1 [.slice A (wkY.take i).length c] := h8.block (hg9.block B1 (h8.lt (Nat.succ_pos _)) (fun e => hne B1 e.symm rfl))
          simp only [Act.put, List.setIfInBounds_toArray, List.set_cons_succ, List.set_cons_zero]
          refine gsem 10 (some 26) (.pointer (some ⟨B1, 0, none⟩)) rfl (by kernel_rfl) (by kernel_rfl) (by kernel_rfl) (fun _ _ _ h => h) (by kernel_rfl) (by kernel_rfl) (fun _ _ => by kernel_rfl) trivial ?_
          simp only [Act.put, List.setIfInBounds_toArray, List.set_cons_succ, List.set_cons_zero]
          refine gsem 11 (some 27) (.pointer (some ⟨B1, 0, none⟩)) rfl (by kernel_rfl) (by kernel_rfl) (by kernel_rfl) (fun _ _ _ h => h) (by kernel_rfl) (by kernel_rfl) (fun _ _ => by kernel_rfl) trivial ?_
          simp only [Act.put, List.setIfInBounds_toArray, List.set_cons_succ, List.set_cons_zero]
          have h12 := h9.put 0 [.slice A9 ((wkY.take i).length + 1) c9] (by simp)
          have f12 := Fr.setCells X9 B1 0 [.slice A9 ((wkY.take i).length + 1) c9]
          refine wpAnyH_ready (rs := [12]) (by kernel_rfl) (by simp) (gskp 12 none rfl (by kernel_rfl) (by kernel_rfl) (ex_store (t := 39) (b := B1) (p := 0) (vs := [.slice A9 ((wkY.take i).length + 1) c9]) rfl rfl rfl rfl (by simp [Value.oneCell']) siz68 h9 (by simp)) trivial ?_ AllReadyH.nil)
          simp only [Act.put, List.setIfInBounds_toArray, List.set_cons_succ, List.set_cons_zero]
          refine wpAnyH_done (by kernel_rfl) ?_ _
          try simp only [Act.put, List.setIfInBounds_toArray, List.set_cons_succ, List.set_cons_zero]
          generalize X9.setCells B1 0 [.slice A9 ((wkY.take i).length + 1) c9] = X12 at *
          have FIN := RF.Is.added hI0 F8 O9 hg9 hf9 f12 h12
          have HFIN : Hid (FI w X12 B1 (wkY.take (i + 1))) := hide (by
            rw [wkY_take i hs]
            refine ⟨_, FIN.1, (unhide HI2).2.1.drew.trans FIN.2.1 (fun b hb => .inr ((unhide HI2).2.2 b hb)), fun b hb => ?_⟩
            unfold RF.blocks at hb
            simp only [List.mem_cons] at hb
            rcases hb with rfl | hb
            · exact (unhide HI2).2.2 _ (by simp [RF.blocks])
            · rcases FIN.2.2 b (by simpa using hb) with e | e
              · exact (unhide HI2).2.2 b (by unfold RF.blocks; exact List.mem_cons_of_mem _ (by rw [e]; simp))
              · exact Nat.le_trans (unhide HI2).2.1.drew.size e)
          clear FIN h12 f12 h9 O9 hg9 hf9 hN8 F8 O8 h8 h6 O6 bl hb6 h0 O0 hI0 HC hne h5 hX8 hB8 hS0
          go_wp2_with (first | go_skip | ((with_reducible show wpList _ _ _ _ _ _); first | ((refine rd (by rfl) (ex_add1n rfl (congrArg _ (unhide HJ)) rfl (unhide HI3)) ?_); simp only [Act.put, List.setIfInBounds_toArray, List.set_cons_succ, List.set_cons_zero])))
          go_roundg (13 - (i + 1))
          case measure => have := unhide HLT; omega
          case rel => exact ⟨i + 1, rfl, by have := unhide HLT; omega, by omega, HFIN⟩
        · simp only [Act.put, List.setIfInBounds_toArray, List.set_cons_succ, List.set_cons_zero]
          refine wpAnyH_ready (rs := [4]) (by kernel_rfl) (by simp) (gval 4 (some 20) rfl (by kernel_rfl) (by kernel_rfl) (ex_load1 39 Tryz.isAgg39 rfl rfl h8 rfl) trivial ?_ AllReadyH.nil)
          simp only [Act.put, List.setIfInBounds_toArray, List.set_cons_succ, List.set_cons_zero]
          generalize hX8 : X6.alloc (Obj.cells (SY.mk (sV s) false).cs.toArray 81) = X8 at *
          generalize hB8 : X6.heap.size = B8 at *
          refine wpAnyH_ready (rs := [9]) (by kernel_rfl) (by simp) (gappF (base := 5) (v := .slice A (wkY.take i).length c) (xs := flatS ((wkY.take i))) (news := (SY.mk (sV s) false).cs) 9 (some 25) rfl (by kernel_rfl) (by kernel_rfl) rfl rfl rfl Tryz.underlying39 info88 rfl (by decide) O8 hN8 rfl (ycs_one _) (by omega) (by decide) (Nat.le_trans h5 F8.size) (fun _ _ => trivial) ?_ AllReadyH.nil)
          intro A9 c9 X9 O9 hg9 hf9
          have h9 : Holds X9 B1 [.slice A (wkY.take i).length c] := h8.block (hg9.block B1 (h8.lt (Nat.succ_pos _)) (fun e => hne B1 e.symm rfl))
          simp only [Act.put, List.setIfInBounds_toArray, List.set_cons_succ, List.set_cons_zero]
          refine gsem 10 (some 26) (.pointer (some ⟨B1, 0, none⟩)) rfl (by kernel_rfl) (by kernel_rfl) (by kernel_rfl) (fun _ _ _ h => h) (by kernel_rfl) (by kernel_rfl) (fun _ _ => by kernel_rfl) trivial ?_
          simp only [Act.put, List.setIfInBounds_toArray, List.set_cons_succ, List.set_cons_zero]
          refine gsem 11 (some 27) (.pointer (some ⟨B1, 0, none⟩)) rfl (by kernel_rfl) (by kernel_rfl) (by kernel_rfl) (fun _ _ _ h => h) (by kernel_rfl) (by kernel_rfl) (fun _ _ => by kernel_rfl) trivial ?_
          simp only [Act.put, List.setIfInBounds_toArray, List.set_cons_succ, List.set_cons_zero]
          have h12 := h9.put 0 [.slice A9 ((wkY.take i).length + 1) c9] (by simp)
          have f12 := Fr.setCells X9 B1 0 [.slice A9 ((wkY.take i).length + 1) c9]
          refine wpAnyH_ready (rs := [12]) (by kernel_rfl) (by simp) (gskp 12 none rfl (by kernel_rfl) (by kernel_rfl) (ex_store (t := 39) (b := B1) (p := 0) (vs := [.slice A9 ((wkY.take i).length + 1) c9]) rfl rfl rfl rfl (by simp [Value.oneCell']) siz68 h9 (by simp)) trivial ?_ AllReadyH.nil)
          simp only [Act.put, List.setIfInBounds_toArray, List.set_cons_succ, List.set_cons_zero]
          refine wpAnyH_done (by kernel_rfl) ?_ _
          try simp only [Act.put, List.setIfInBounds_toArray, List.set_cons_succ, List.set_cons_zero]
          generalize X9.setCells B1 0 [.slice A9 ((wkY.take i).length + 1) c9] = X12 at *
          have FIN := RF.Is.added hI0 F8 O9 hg9 hf9 f12 h12
          have HFIN : Hid (FI w X12 B1 (wkY.take (i + 1))) := hide (by
            rw [wkY_take i hs]
            refine ⟨_, FIN.1, (unhide HI2).2.1.drew.trans FIN.2.1 (fun b hb => .inr ((unhide HI2).2.2 b hb)), fun b hb => ?_⟩
            unfold RF.blocks at hb
            simp only [List.mem_cons] at hb
            rcases hb with rfl | hb
            · exact (unhide HI2).2.2 _ (by simp [RF.blocks])
            · rcases FIN.2.2 b (by simpa using hb) with e | e
              · exact (unhide HI2).2.2 b (by unfold RF.blocks; exact List.mem_cons_of_mem _ (by rw [e]; simp))
              · exact Nat.le_trans (unhide HI2).2.1.drew.size e)
          clear FIN h12 f12 h9 O9 hg9 hf9 hN8 F8 O8 h8 h6 O6 bl hb6 h0 O0 hI0 HC hne h5 hX8 hB8 hS0
          go_wp2_with (first | go_skip | ((with_reducible show wpList _ _ _ _ _ _); first | ((refine rd (by rfl) (ex_add1n rfl (congrArg _ (unhide HJ)) rfl (unhide HI3)) ?_); simp only [Act.put, List.setIfInBounds_toArray, List.set_cons_succ, List.set_cons_zero])))
          go_roundg (13 - (i + 1))
          case measure => have := unhide HLT; omega
          case rel => exact ⟨i + 1, rfl, by have := unhide HLT; omega, by omega, HFIN⟩
    · have hi13 : i = 13 := by omega
      subst hi13
      obtain ⟨sv, HI2⟩ := unhide HI
      replace HI2 := hide HI2
      clear HI hlt
      go_wp2
      go_ret
      refine ⟨RF.mk B1 sv wkY, rfl, ?_, rfl, (unhide HI2).2.2, (unhide HI2).2.1.below⟩
      exact (unhide HI2).1
end Go.Proofs.YtkpfikeggleenaaGreatDoor
