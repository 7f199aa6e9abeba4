import Derived.Test.YtkpfikeggleenaaGreatDoorYc
namespace Go.Proofs.YtkpfikeggleenaaGreatDoor
open Go Go.Proofs Go.Maps Go.RowKit
set_option linter.unusedSimpArgs false
set_option linter.unusedVariables false
set_option maxHeartbeats 1000000
theorem Hq.wide {w X : World} {L : List (Nat × List Value)} (h : Hq w X [] L) (E : List Nat) : Hq w X E L := ⟨h.fr.mono (by simp), h.all, h.nd⟩
theorem OwnS.row' {T : TypeId} {W : World} {g n c : Nat} {l : List SY} (h : OwnS T W (.slice (some ⟨g, 0, none⟩) n c) l) (j : Nat) (hj : j < l.length) : W.rangeAt g (0 + j * 6) l[j].cs := by
  obtain ⟨g', c', e, hr⟩ := h.row j hj
  cases e
  rw [Nat.zero_add]
  exact hr
theorem ex_sub1 {o : Oper} {a : Act} {w : World} {x y : Operand} {n : Nat} (ho : o.op = .binOp .sub 3 x y 3) (hx : a.eval x = .int .i64 ((n + 1 : Nat) : Int)) (hy : a.eval y = .int .i64 1) (hn : n < 1000000) : (execOp a.eval o).run Tryz.prog w = .ok (.value (.int .i64 (n : Nat))) w := by
  unfold execOp
  simp only [ho, hx, hy]
  have e : IntKind.i64.wrap (((n + 1 : Nat) : Int) - 1) = (n : Int) := by
    rw [IntKind.wrap_i64]
    omega
  simp [go_sem, eqGuard, e]
  rw [IntKind.wrap_i64]
  omega
theorem RG.Is.added {r m n sz c : Nat} {sv : Value} {l : List SY} {y : SY} {Ad : Option Addr} {F : ByteArray → Option Nat} {w X6 X7 X8 : World} (h : (RG.mk r m sv l).Is w n sz F) (h6 : Fr w X6 []) (ho : X7.ownsRow 5 77 6 (.slice Ad (l.length + 1) c) (l.length + 1) (flatS l ++ y.cs)) (hg : X6.grownBy X7 sv.ownBlock) (hf : Fresh X6 sv (.slice Ad (l.length + 1) c))
    (h8 : Fr X7 X8 [r]) (hh : Holds X8 r [.slice Ad (l.length + 1) c, .map (some m)]) (hy : y.v.s.size ≤ 1048576) (h5 : 5 ≤ w.heap.size) :
    (RG.mk r m (.slice Ad (l.length + 1) c) (l ++ [y])).Is X8 n sz F ∧ Fr w X8 (RG.mk r m sv l).blocks ∧ (∀ g, (Value.slice Ad (l.length + 1) c).ownBlock = some g → sv.ownBlock = some g ∨ w.heap.size ≤ g) := by
  have hlt := h.lt
  have hnd := h.nd
  unfold RG.blocks at hnd hlt
  rw [List.nodup_cons, List.nodup_cons] at hnd
  obtain ⟨n1, n2, -⟩ := hnd
  dsimp only at n1 n2 hlt
  have hr := hlt r (List.mem_cons_self ..)
  have hm := hlt m (List.mem_cons_of_mem _ (List.mem_cons_self ..))
  simp only [List.mem_cons, not_or] at n1
  have f7 : Fr w X7 sv.ownBlock.toList := (h6.mono (by simp)).trans (Fr.grown hg) (fun b hb => .inl hb)
  have f8 : Fr w X8 (RG.mk r m sv l).blocks := (f7.mono (fun b hb => .inl (by unfold RG.blocks; exact List.mem_cons_of_mem _ (List.mem_cons_of_mem _ hb)))).trans h8 (fun b hb => .inl (by
    obtain rfl : b = r := by simpa using hb
    exact List.mem_cons_self ..))
  have hs6 := h6.size
  have hown : ∀ g, (Value.slice Ad (l.length + 1) c).ownBlock = some g → sv.ownBlock = some g ∨ w.heap.size ≤ g := fun g hg => by
    rcases hf with e | e
    · exact .inl (e ▸ hg)
    · rw [e] at hg
      have : X6.heap.size = g := by simpa using hg
      exact .inr (by omega)
  have hne : ∀ g, (Value.slice Ad (l.length + 1) c).ownBlock = some g → g ≠ r ∧ g ≠ m := fun g hg => by
    rcases hown g hg with e | e
    · exact ⟨fun e2 => n1.2 (by rw [e, e2]; simp), fun e2 => n2 (by rw [e, e2]; simp)⟩
    · exact ⟨by omega, by omega⟩
  have hoS : OwnS 77 X7 (.slice Ad (l.length + 1) c) (l ++ [y]) := by
    unfold OwnS
    rw [flatS_append, flatS_one, List.length_append]
    exact ho
  refine ⟨⟨hh, hoS.block (fun g hg => h8.block g (hoS.lt g hg).2 (by simpa using (hne g hg).1)), ?_, ?_, ?_, ?_⟩, f8, hown⟩
  · have e1 : X7.heap[m]? = w.heap[m]? := f7.block m hm (fun e => n2 e)
    have e2 : X8.heap[m]? = X7.heap[m]? := h8.block m (Nat.lt_of_lt_of_le hm f7.size) (by simpa using fun e => n1.1 e.symm)
    exact h.map.block (e2.trans e1)
  · unfold RG.blocks
    rw [List.nodup_cons, List.nodup_cons]
    refine ⟨?_, ?_, ?_⟩
    · simp only [List.mem_cons, not_or]
      exact ⟨n1.1, fun hm => (hne r (by simpa using hm)).1 rfl⟩
    · exact fun hm => (hne m (by simpa using hm)).2 rfl
    · cases (Value.slice Ad (l.length + 1) c).ownBlock <;> simp
  · intro b hb
    unfold RG.blocks at hb
    simp only [List.mem_cons] at hb
    rcases hb with rfl | rfl | hb
    · exact h.ge _ (by simp [RG.blocks])
    · exact h.ge _ (by simp [RG.blocks])
    · exact (hoS.lt b (by simpa using hb)).1
  · intro z hz
    rcases List.mem_append.1 hz with hz | hz
    · exact h.sml z hz
    · obtain rfl : z = y := by simpa using hz
      exact hy
theorem info77 : (Tryz.prog.info? 77).map (fun i => (i.zero, i.size, i.bytes)) = some (some (.agg zeroY.cs.toArray), 6, 56) := by kernel_rfl
theorem no_row {r m n sz B1 : Nat} {sv : Value} {l : List SY} {F : ByteArray → Option Nat} {w : World} {cs : List Value} (h : (RG.mk r m sv l).Is w n sz F) (hB : w.heap.size ≤ B1) {q : Nat × List Value} (hq : q ∈ [(B1, cs)]) : q.1 ∉ sv.ownBlock.toList := by
  obtain rfl : q = (B1, cs) := by simpa using hq
  intro hm
  have := (h.own.lt B1 (by simpa using hm)).2
  omega
theorem RG.Is.row_r {R : RG} {w : World} {n sz : Nat} {F : ByteArray → Option Nat} (h : R.Is w n sz F) : ∀ g, R.sv.ownBlock = some g → g ≠ R.r := fun g hg e => by
  have hnd := h.nd
  unfold RG.blocks at hnd
  rw [List.nodup_cons] at hnd
  exact hnd.1 (List.mem_cons_of_mem _ (by rw [hg, e]; simp))
set_option maxRecDepth 100000 in
theorem add31 (R : RG) (y : SY) (w : World) {n sz : Nat} {F : ByteArray → Option Nat} (hR : R.Is w n sz F) (h5 : 5 ≤ w.heap.size) (hl : R.l.length < 65536) (hy : y.v.s.size ≤ 1048576) : Calls Tryz.prog 34 #[.pointer (some ⟨R.r, 0, none⟩), y.agg] w fun e w' => e = .returned (.tuple #[.int .i64 ((R.l.length + 1 : Nat) : Int), .int .i64 0]) ∧ ∃ sv, (RG.mk R.r R.m sv (R.l ++ [y])).Is w' n sz F ∧ Fr w w' R.blocks ∧ (∀ g, sv.ownBlock = some g → R.sv.ownBlock = some g ∨ w.heap.size ≤ g) := by
  have HR := hide hR
  obtain ⟨A, c, hv⟩ := hR.own.form
  obtain ⟨r, m, sv, l⟩ := R
  dsimp only at *
  subst hv
  have hlz : decide ((65536 : Int) ≤ (l.length : Int)) = false := decide_eq_false (by omega)
  have LL := hide (Hq.nil w [])
  have HL := hide (And.intro hl (And.intro hy h5))
  clear hR hl hy h5
  unfold SY.agg
  go_enter Tryz.func34, Tryz.ntmps34
  go_wp2_with (first | go_skip | ((with_reducible show wpList _ _ _ _ _ _); first | ((refine bx 77 (y.cs) (by rfl) rfl rfl rfl (Nat.succ_pos _) (unhide LL) ?_); intro X1 B1 hE1 L1 hb1; have hB1 := hide (Nat.le_trans (unhide LL).fr.size (Nat.le_of_eq hE1.symm)); replace LL := hide L1; clear L1 hb1 hE1; simp only [Act.put, List.setIfInBounds_toArray, List.set_cons_succ, List.set_cons_zero]) | ((refine rd (by rfl) (ex_load1 71 Tryz.isAgg71 rfl rfl (((unhide HR).fr (unhide LL).fr (by simp)).hold) rfl) ?_); simp only [Act.put, List.setIfInBounds_toArray, List.set_cons_succ, List.set_cons_zero]) | ((refine rd (by rfl) (ex_lenG 71 77 Tryz.underlying71 rfl rfl) ?_); simp only [Act.put, List.setIfInBounds_toArray, List.set_cons_succ, List.set_cons_zero])))
  have HO : OwnS 77 X1 (.slice A l.length c) l := ((unhide HR).fr (unhide LL).fr (by simp)).own
  have h1 : Holds X1.drew r [.slice A l.length c, .map (some m)] := ((unhide HR).fr (unhide LL).fr (by simp)).hold.block rfl
  have s1 := ((unhide LL).wide (RG.mk r m (.slice A l.length c) l).blocks).drew
  have bl := (Below.refl X1.drew.heap.size X1.drew).alloc (Nat.le_refl _) (Obj.cells y.cs.toArray 77)
  have hN := Holds.new X1.drew y.cs 77
  obtain ⟨B6, hB6⟩ : ∃ B6, B6 = X1.drew.heap.size := ⟨_, rfl⟩
  obtain ⟨X6, hX6⟩ : ∃ X6, X6 = X1.drew.alloc (Obj.cells y.cs.toArray 77) := ⟨_, rfl⟩
  have F6 := (unhide LL).fr.drew.on bl
  have O6 : OwnS 77 _ (.slice A l.length c) l := OwnS.block HO (fun g hg => (bl.block g (HO.lt g hg).2))
  have s6 := s1.on bl
  have h6 := h1.block (bl.block r (h1.lt (Nat.succ_pos _)))
  have hsub : ∀ b ∈ (Value.slice A l.length c).ownBlock.toList, b ∈ (RG.mk r m (.slice A l.length c) l).blocks ∨ w.heap.size ≤ b := fun b hb => .inl (by unfold RG.blocks; exact List.mem_cons_of_mem _ (List.mem_cons_of_mem _ hb))
  have hno : ∀ q ∈ [(B1, y.cs)], q.1 ∉ (Value.slice A l.length c).ownBlock.toList := fun q hq => no_row (unhide HR) (unhide hB1) hq
  rw [← hB6] at hN
  rw [← hX6] at hN F6 O6 s6 h6
  refine wp_region_held_drew (P := Tryz.prog) (S := fun X => Hq w X (RG.mk r m (.slice A l.length c) l).blocks [(B1, y.cs)]) (by kernel_rfl) s1 (fun hS0 => ?_)
  refine gsem 0 (some 12) (.pointer (some ⟨r, 0, none⟩)) rfl (by kernel_rfl) (by kernel_rfl) (by kernel_rfl) (fun _ _ _ h => h) (by kernel_rfl) (by kernel_rfl) (fun _ _ => by kernel_rfl) s1 ?_
  simp only [Act.put, List.setIfInBounds_toArray, List.set_cons_succ, List.set_cons_zero]
  refine gsem 1 (some 13) (.pointer (some ⟨r, 0, none⟩)) rfl (by kernel_rfl) (by kernel_rfl) (by kernel_rfl) (fun _ _ _ h => h) (by kernel_rfl) (by kernel_rfl) (fun _ _ => by kernel_rfl) s1 ?_
  simp only [Act.put, List.setIfInBounds_toArray, List.set_cons_succ, List.set_cons_zero]
  refine gsem 2 (some 14) (.pointer (some ⟨r, 0, none⟩)) rfl (by kernel_rfl) (by kernel_rfl) (by kernel_rfl) (fun _ _ _ h => h) (by kernel_rfl) (by kernel_rfl) (fun _ _ => by kernel_rfl) s1 ?_
  simp only [Act.put, List.setIfInBounds_toArray, List.set_cons_succ, List.set_cons_zero]
  refine gsem 3 (some 15) (.pointer (some ⟨r, 0, none⟩)) rfl (by kernel_rfl) (by kernel_rfl) (by kernel_rfl) (fun _ _ _ h => h) (by kernel_rfl) (by kernel_rfl) (fun _ _ => by kernel_rfl) s1 ?_
  simp only [Act.put, List.setIfInBounds_toArray, List.set_cons_succ, List.set_cons_zero]
  refine gsem 5 (some 17) (.agg y.cs.toArray) rfl (by kernel_rfl) (by kernel_rfl) (by kernel_rfl) (fun _ _ _ h => h) (by kernel_rfl) (by kernel_rfl) (fun X hX => ex_loadN (vs := y.cs) 77 6 row77 siz77 rfl rfl (hX.get 0 rfl) rfl rfl) s1 ?_
  simp only [Act.put, List.setIfInBounds_toArray, List.set_cons_succ, List.set_cons_zero]
  refine wpAnyH_ready (rs := [4, 6]) (by kernel_rfl) (by simp) (gval 4 (some 16) rfl (by kernel_rfl) (by kernel_rfl) (ex_load1 71 Tryz.isAgg71 rfl rfl h1 rfl) s1 ?_ (gval 6 (some 18) rfl (by kernel_rfl) (by kernel_rfl) (ex_buildS (e := 77) (size := 6) (bytes := 56) (cs := y.cs) rfl rfl Tryz.underlying71 info77 (by decide) rfl rfl (by decide)) (hX6 ▸ s6) ?_ AllReadyH.nil))
  · simp only [Act.put, List.setIfInBounds_toArray, List.set_cons_succ, List.set_cons_zero]
    refine wpAnyH_ready (rs := [6]) (by kernel_rfl) (by simp) (gval 6 (some 18) rfl (by kernel_rfl) (by kernel_rfl) (ex_buildS (e := 77) (size := 6) (bytes := 56) (cs := y.cs) rfl rfl Tryz.underlying71 info77 (by decide) rfl rfl (by decide)) (hX6 ▸ s6) ?_ AllReadyH.nil)
    simp only [Act.put, List.setIfInBounds_toArray, List.set_cons_succ, List.set_cons_zero]
    rw [← hB6]
    rw [← hX6] at *
    refine wpAnyH_ready (rs := [7]) (by kernel_rfl) (by simp) (gappF (base := 5) (v := .slice A l.length c) (xs := flatS l) (news := y.cs) 7 (some 19) rfl (by kernel_rfl) (by kernel_rfl) rfl rfl rfl Tryz.underlying71 info77 rfl (by decide) O6 hN rfl (ycs_one y) (by have := (unhide HL).1; omega) (by decide) (Nat.le_trans (unhide HL).2.2 F6.size) (fun X hg => s6.step (Fr.grown hg) hsub hno) ?_ AllReadyH.nil)
    intro A7 c7 X7 O7 hg7 hf7
    have s7 := s6.step (Fr.grown hg7) hsub hno
    have h7 : Holds X7 r [.slice A l.length c, .map (some m)] := h6.block (hg7.block r (h6.lt (Nat.succ_pos _)) (fun e => (unhide HR).row_r r e.symm rfl))
    simp only [Act.put, List.setIfInBounds_toArray, List.set_cons_succ, List.set_cons_zero]
    refine gsem 8 (some 20) (.pointer (some ⟨r, 0, none⟩)) rfl (by kernel_rfl) (by kernel_rfl) (by kernel_rfl) (fun _ _ _ h => h) (by kernel_rfl) (by kernel_rfl) (fun _ _ => by kernel_rfl) s7 ?_
    simp only [Act.put, List.setIfInBounds_toArray, List.set_cons_succ, List.set_cons_zero]
    refine gsem 9 (some 21) (.pointer (some ⟨r, 0, none⟩)) rfl (by kernel_rfl) (by kernel_rfl) (by kernel_rfl) (fun _ _ _ h => h) (by kernel_rfl) (by kernel_rfl) (fun _ _ => by kernel_rfl) s7 ?_
    simp only [Act.put, List.setIfInBounds_toArray, List.set_cons_succ, List.set_cons_zero]
    have h8 : Holds (X7.setCells r 0 [.slice A7 (l.length + 1) c7]) r [.slice A7 (l.length + 1) c7, .map (some m)] := h7.put 0 [.slice A7 (l.length + 1) c7] (by simp)
    have f8 := Fr.setCells X7 r 0 [.slice A7 (l.length + 1) c7]
    have s8 := s7.step f8 (fun b hb => .inl (by obtain rfl : b = r := (by simpa using hb); simp [RG.blocks])) (fun q hq => by obtain rfl : q = (B1, y.cs) := (by simpa using hq); have := (unhide HR).hold.lt (Nat.succ_pos _); have := unhide hB1; simp; dsimp only at *; omega)
    refine wpAnyH_ready (rs := [10]) (by kernel_rfl) (by simp) (gskp 10 none rfl (by kernel_rfl) (by kernel_rfl) (ex_store (t := 71) (b := r) (p := 0) (vs := [.slice A7 (l.length + 1) c7]) rfl rfl rfl rfl (by simp [Value.oneCell']) siz72 h7 (by simp)) s8 ?_ AllReadyH.nil)
    simp only [Act.put, List.setIfInBounds_toArray, List.set_cons_succ, List.set_cons_zero]
    refine wpAnyH_done (by kernel_rfl) ?_ _
    try simp only [Act.put, List.setIfInBounds_toArray, List.set_cons_succ, List.set_cons_zero]
    generalize X7.setCells r 0 [.slice A7 (l.length + 1) c7] = X8 at *
    have FIN := hide (RG.Is.added (unhide HR) F6 O7 hg7 hf7 f8 h8 (unhide HL).2.1 (unhide HL).2.2)
    have H8 := hide h8
    clear h8 f8 s8 s7 h7 O7 hg7 hf7
    go_wp2_with (first | go_skip | ((with_reducible show wpList _ _ _ _ _ _); first | ((refine rd (by rfl) (ex_load1 71 Tryz.isAgg71 rfl rfl (unhide H8) rfl) ?_); simp only [Act.put, List.setIfInBounds_toArray, List.set_cons_succ, List.set_cons_zero]) | ((refine rd (by rfl) (ex_lenG 71 77 Tryz.underlying71 rfl rfl) ?_); simp only [Act.put, List.setIfInBounds_toArray, List.set_cons_succ, List.set_cons_zero])))
    go_ret2
    exact ⟨rfl, _, unhide FIN⟩
  · simp only [Act.put, List.setIfInBounds_toArray, List.set_cons_succ, List.set_cons_zero]
    rw [← hX6]
    refine wpAnyH_ready (rs := [4]) (by kernel_rfl) (by simp) (gval 4 (some 16) rfl (by kernel_rfl) (by kernel_rfl) (ex_load1 71 Tryz.isAgg71 rfl rfl h6 rfl) s6 ?_ AllReadyH.nil)
    simp only [Act.put, List.setIfInBounds_toArray, List.set_cons_succ, List.set_cons_zero]
    rw [← hB6]
    rw [← hX6] at *
    refine wpAnyH_ready (rs := [7]) (by kernel_rfl) (by simp) (gappF (base := 5) (v := .slice A l.length c) (xs := flatS l) (news := y.cs) 7 (some 19) rfl (by kernel_rfl) (by kernel_rfl) rfl rfl rfl Tryz.underlying71 info77 rfl (by decide) O6 hN rfl (ycs_one y) (by have := (unhide HL).1; omega) (by decide) (Nat.le_trans (unhide HL).2.2 F6.size) (fun X hg => s6.step (Fr.grown hg) hsub hno) ?_ AllReadyH.nil)
    intro A7 c7 X7 O7 hg7 hf7
    have s7 := s6.step (Fr.grown hg7) hsub hno
    have h7 : Holds X7 r [.slice A l.length c, .map (some m)] := h6.block (hg7.block r (h6.lt (Nat.succ_pos _)) (fun e => (unhide HR).row_r r e.symm rfl))
    simp only [Act.put, List.setIfInBounds_toArray, List.set_cons_succ, List.set_cons_zero]
    refine gsem 8 (some 20) (.pointer (some ⟨r, 0, none⟩)) rfl (by kernel_rfl) (by kernel_rfl) (by kernel_rfl) (fun _ _ _ h => h) (by kernel_rfl) (by kernel_rfl) (fun _ _ => by kernel_rfl) s7 ?_
    simp only [Act.put, List.setIfInBounds_toArray, List.set_cons_succ, List.set_cons_zero]
    refine gsem 9 (some 21) (.pointer (some ⟨r, 0, none⟩)) rfl (by kernel_rfl) (by kernel_rfl) (by kernel_rfl) (fun _ _ _ h => h) (by kernel_rfl) (by kernel_rfl) (fun _ _ => by kernel_rfl) s7 ?_
    simp only [Act.put, List.setIfInBounds_toArray, List.set_cons_succ, List.set_cons_zero]
    have h8 : Holds (X7.setCells r 0 [.slice A7 (l.length + 1) c7]) r [.slice A7 (l.length + 1) c7, .map (some m)] := h7.put 0 [.slice A7 (l.length + 1) c7] (by simp)
    have f8 := Fr.setCells X7 r 0 [.slice A7 (l.length + 1) c7]
    have s8 := s7.step f8 (fun b hb => .inl (by obtain rfl : b = r := (by simpa using hb); simp [RG.blocks])) (fun q hq => by obtain rfl : q = (B1, y.cs) := (by simpa using hq); have := (unhide HR).hold.lt (Nat.succ_pos _); have := unhide hB1; simp; dsimp only at *; omega)
    refine wpAnyH_ready (rs := [10]) (by kernel_rfl) (by simp) (gskp 10 none rfl (by kernel_rfl) (by kernel_rfl) (ex_store (t := 71) (b := r) (p := 0) (vs := [.slice A7 (l.length + 1) c7]) rfl rfl rfl rfl (by simp [Value.oneCell']) siz72 h7 (by simp)) s8 ?_ AllReadyH.nil)
    simp only [Act.put, List.setIfInBounds_toArray, List.set_cons_succ, List.set_cons_zero]
    refine wpAnyH_done (by kernel_rfl) ?_ _
    try simp only [Act.put, List.setIfInBounds_toArray, List.set_cons_succ, List.set_cons_zero]
    generalize X7.setCells r 0 [.slice A7 (l.length + 1) c7] = X8 at *
    have FIN := hide (RG.Is.added (unhide HR) F6 O7 hg7 hf7 f8 h8 (unhide HL).2.1 (unhide HL).2.2)
    have H8 := hide h8
    clear h8 f8 s8 s7 h7 O7 hg7 hf7
    go_wp2_with (first | go_skip | ((with_reducible show wpList _ _ _ _ _ _); first | ((refine rd (by rfl) (ex_load1 71 Tryz.isAgg71 rfl rfl (unhide H8) rfl) ?_); simp only [Act.put, List.setIfInBounds_toArray, List.set_cons_succ, List.set_cons_zero]) | ((refine rd (by rfl) (ex_lenG 71 77 Tryz.underlying71 rfl rfl) ?_); simp only [Act.put, List.setIfInBounds_toArray, List.set_cons_succ, List.set_cons_zero])))
    go_ret2
    exact ⟨rfl, _, unhide FIN⟩
end Go.Proofs.YtkpfikeggleenaaGreatDoor
