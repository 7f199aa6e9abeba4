import Derived.Test.YtpbdidnphkkenaaGreatDoorRk
set_option linter.all false
namespace Go.Proofs.YtpbdidnphkkenaaGreatDoor
set_option maxHeartbeats 1000000
section
open Go Go.Proofs Go.Maps Go.RowKit
/-- What Delete makes of the document's list. -/
def DelR (R : RT) (k : KK) (R' : RT) : Prop := (R.find k = none ∧ R'.es = R.es) ∨ ∃ a x b, R.es = a ++ x :: b ∧ R.find k = some a.length ∧ R'.es = a ++ b
set_option maxRecDepth 100000 in
theorem refDelete_none (R : RT) (k : KK) (w : World) (hR : R.Is w) (hl : R.es.length ≤ 3000000) (hf : R.find k = none) : Calls Tryz.prog 15 #[.pointer (some ⟨R.t, 0, none⟩), k.agg] w fun e w' => e = .returned (.bool false) ∧ ∃ R', RT.To R R' w w' ∧ R'.es = R.es := by
  have HR := hide (hR.on ((Below.refl _ _).alloc (Nat.le_refl _) (Obj.cells k.cs.toArray 33)))
  have LL := hide ((Hq.nil w R.blocks).new k.cs 33 (Nat.succ_pos _))
  have HC := hide (fun X hX => find36 R k X hX hl)
  rw [hf] at HC
  rw [show fI none = (-1 : Int) from rfl] at HC
  clear hf hl hR
  rw [show k.agg = .agg k.cs.toArray from rfl]
  go_enter Tryz.func15, Tryz.ntmps15
  go_wp2_with (first | go_skip | ((refine rd (by rfl) (ex_loadN (vs := k.cs) 33 2 row33x siz33 rfl rfl ((unhide LL).get 0 rfl) rfl rfl) ?_); simp only [Act.put, nzA, nzB, nzC]))
  refine ((unhide HC) _ (unhide HR)).mono ?_
  rintro _ w2 ⟨rfl, hb⟩
  replace HR := hide ((unhide HR).on hb)
  replace LL := hide ((unhide LL).on hb)
  clear hb HC
  go_wp2
  go_ret
  exact ⟨rfl, R, ⟨unhide HR, rfl, rfl, (unhide LL).fr, fun b hb => .inl hb⟩, rfl⟩
theorem refDelete15 (R : RT) (k : KK) (w : World) (hR : R.Is w) (hl : R.es.length ≤ 3000000) : Calls Tryz.prog 15 #[.pointer (some ⟨R.t, 0, none⟩), k.agg] w fun e w' => e = .returned (.bool (R.find k).isSome) ∧ ∃ R', RT.To R R' w w' ∧ DelR R k R' := by
  cases hf : R.find k with
  | none =>
    refine (refDelete_none R k w hR hl hf).mono ?_
    rintro e w' ⟨rfl, R', h1, h2⟩
    exact ⟨rfl, R', h1, .inl ⟨hf, h2⟩⟩
  | some i =>
    obtain ⟨hi, hk⟩ := RT.find_lt hf
    have he : R.es = R.es.take i ++ R.es[i] :: R.es.drop (i + 1) := by simp
    have hl2 : (R.es.take i).length = i := by simp; omega
    refine (refDelete_some R k w hR hl (R.es.take i) (R.es.drop (i + 1)) R.es[i] he (by rw [hl2]; exact hf)).mono ?_
    rintro e w' ⟨rfl, R', h1, h2⟩
    exact ⟨rfl, R', h1, .inr ⟨_, _, _, he, by rw [hl2]; exact hf, h2⟩⟩
theorem ex_build48 {o : Oper} {a : Act} {w : World} {x y : Operand} {A : Option Addr} {n c : Nat} {z : Int} (ho : o.op = .build 48 #[(0, x), (1, y)]) (hx : a.eval x = .slice A n c) (hy : a.eval y = .int .i64 z) : (execOp a.eval o).run Tryz.prog w = .ok (.value (.agg [.slice A n c, .int .i64 z].toArray)) w := by
  have e : (Instr.build 48 #[(0, .slice A n c), (1, .int .i64 z)]).run Tryz.prog w = .ok (.agg [.slice A n c, .int .i64 z].toArray) w := by kernel_rfl
  unfold execOp
  simp only [ho, List.map_toArray, List.map_cons, List.map_nil, hx, hy]
  simp [e]
theorem clone_fin {R : RT} {w W : World} {A : Option Addr} {m c : Nat} (hb : Below w.heap.size w W) (hm : m = R.es.length) (ho : W.ownsRow w.heap.size 82 21 (.slice A m c) m (flatE R.es)) : ∃ R' : RT, W.heap.size = R'.t ∧ R'.Is (W.alloc (Obj.cells [.slice A m c, .int .i64 R.nx].toArray 48)) ∧ R'.es = R.es ∧ R'.nx = R.nx ∧ (∀ b ∈ R'.blocks, w.heap.size ≤ b) ∧ Below w.heap.size w (W.alloc (Obj.cells [.slice A m c, .int .i64 R.nx].toArray 48)) := by
  have bl := (Below.refl W.heap.size W).alloc (Nat.le_refl _) (Obj.cells [.slice A m c, .int .i64 R.nx].toArray 48)
  refine ⟨⟨W.heap.size, .slice A m c, R.es, R.nx⟩, rfl, ⟨Holds.new W _ 48, ?_, ?_⟩, rfl, rfl, ?_, hb.trans (bl.mono hb.size)⟩
  · rw [← hm]
    exact own_mono (own_block ho (fun b hb' => bl.block b (World.ownsRow.lt ho b hb').2)) (Nat.zero_le _)
  · unfold RT.blocks
    cases hv : (Value.slice A m c).ownBlock with
    | none => simp
    | some b =>
      have := (World.ownsRow.lt ho b hv).2
      simp
      omega
  · intro b hb'
    unfold RT.blocks at hb'
    simp only [List.mem_cons] at hb'
    rcases hb' with rfl | h1
    · exact hb.size
    · exact (World.ownsRow.lt ho b (by simpa using h1)).1
set_option maxRecDepth 100000 in
theorem refClone_nil (R : RT) (w : World) (hR : R.Is w) (hl : R.es.length ≤ 3000000) (hv : R.lv = .slice none 0 0) (h0 : R.es = []) : Calls Tryz.prog 25 #[.pointer (some ⟨R.t, 0, none⟩)] w fun e w' => ∃ R' : RT, e = .returned (.pointer (some ⟨R'.t, 0, none⟩)) ∧ R'.Is w' ∧ R'.es = R.es ∧ R'.nx = R.nx ∧ (∀ b ∈ R'.blocks, w.heap.size ≤ b) ∧ Below w.heap.size w w' := by
  have hT : Holds w R.t [.slice none 0 0, .int .i64 R.nx] := by have := hR.tab; unfold RT.cs at this; rw [hv] at this; exact this
  have hO := hR.own
  rw [hv] at hO
  have HT := hide hT
  have HO := hide hO
  have htl := hR.lt R.t (by simp [RT.blocks])
  clear hR hT hO
  go_enter Tryz.func25, Tryz.ntmps25
  go_wp2
  refine wp_region_held_drew (P := Tryz.prog) (S := fun X => Holds X R.t [.slice none 0 0, .int .i64 R.nx]) (by kernel_rfl) ((unhide HT).block rfl) (fun hS0 => ?_)
  refine gsem 1 (some 4) (.pointer (some ⟨R.t, 0, none⟩)) rfl (by kernel_rfl) (by kernel_rfl) (by kernel_rfl) (fun _ _ _ h => h) (by kernel_rfl) (by kernel_rfl) (fun _ _ => by kernel_rfl) hS0 ?_
  simp only [Act.put, nzA, nzB, nzC]
  refine gsem 2 (some 5) (.pointer (some ⟨R.t, 0, none⟩)) rfl (by kernel_rfl) (by kernel_rfl) (by kernel_rfl) (fun _ _ _ h => h) (by kernel_rfl) (by kernel_rfl) (fun _ _ => by kernel_rfl) hS0 ?_
  simp only [Act.put, nzA, nzB, nzC]
  refine gsem 3 (some 6) (.pointer (some ⟨R.t, 0, none⟩)) rfl (by kernel_rfl) (by kernel_rfl) (by kernel_rfl) (fun _ _ _ h => h) (by kernel_rfl) (by kernel_rfl) (fun _ _ => by kernel_rfl) hS0 ?_
  simp only [Act.put, nzA, nzB, nzC]
  refine gsem 4 (some 7) (.slice none 0 0) rfl (by kernel_rfl) (by kernel_rfl) (by kernel_rfl) (fun _ _ _ h => h) (by kernel_rfl) (by kernel_rfl) (fun X hX => ex_load1 46 Tryz.isAgg46 rfl rfl (hX) rfl) hS0 ?_
  simp only [Act.put, nzA, nzB, nzC]
  refine gsem 6 (some 9) (.pointer (some ⟨R.t, 0, none⟩)) rfl (by kernel_rfl) (by kernel_rfl) (by kernel_rfl) (fun _ _ _ h => h) (by kernel_rfl) (by kernel_rfl) (fun _ _ => by kernel_rfl) hS0 ?_
  simp only [Act.put, nzA, nzB, nzC]
  refine gsem 7 (some 10) (.pointer (some ⟨R.t, 0, none⟩)) rfl (by kernel_rfl) (by kernel_rfl) (by kernel_rfl) (fun _ _ _ h => h) (by kernel_rfl) (by kernel_rfl) (fun _ _ => by kernel_rfl) hS0 ?_
  simp only [Act.put, nzA, nzB, nzC]
  refine gsem 8 (some 11) (.pointer (some ⟨R.t, 1, none⟩)) rfl (by kernel_rfl) (by kernel_rfl) (by kernel_rfl) (fun _ _ _ h => h) (by kernel_rfl) (by kernel_rfl) (fun _ _ => by kernel_rfl) hS0 ?_
  simp only [Act.put, nzA, nzB, nzC]
  refine gsem 9 (some 12) (.int .i64 R.nx) rfl (by kernel_rfl) (by kernel_rfl) (by kernel_rfl) (fun _ _ _ h => h) (by kernel_rfl) (by kernel_rfl) (fun X hX => ex_load1 3 Tryz.isAgg3 rfl rfl (hX) rfl) hS0 ?_
  simp only [Act.put, nzA, nzB, nzC]
  have bl := (Below.refl w.drew.heap.size w.drew).alloc (Nat.le_refl _) (Obj.cells #[] 82)
  have hb1 : Below w.heap.size w (w.drew.alloc (Obj.cells #[] 82)) := (below_dr (Below.refl w.heap.size w)).trans bl
  have h12 := own_none w.drew w.heap.size 82 21 (Nat.le_refl _)
  have hS1 := hS0.block (bl.block R.t htl)
  refine wpAnyH_ready (rs := [0]) (by kernel_rfl) (by simp) (gval 0 (some 3) rfl (by kernel_rfl) (by kernel_rfl) (ex_none46 rfl) hS1 ?_ AllReadyH.nil)
  clear hS0
  replace HO := hide (own_block (w' := w.drew.alloc (Obj.cells #[] 82)) (unhide HO) (fun b hb => bl.block b (World.ownsRow.lt (unhide HO) b hb).2))
  clear bl
  generalize w.drew.alloc (Obj.cells #[] 82) = x1 at *
  generalize w.drew.heap.size = B at *
  simp only [Act.put, nzA, nzB, nzC]
  obtain ⟨i0, hi0, -⟩ := info_parts info82w
  have hrun := fun ty => run_append_owned_none (P := Tryz.prog) (w := x1) w.heap.size 46 ty 82 i0 21 Tryz.underlying46 hi0 (.slice (some ⟨B, 0, none⟩) 0 0) 0 [] h12
  refine wpAnyH_ready (rs := [5]) (by kernel_rfl) (by simp) (gval 5 (some 8) (V := .slice (some ⟨B, 0, none⟩) 0 0) (X := x1) rfl (by kernel_rfl) (by kernel_rfl) (by have h := hrun 46; simp [execOp, resolve, invoke, builtin, h, Result.andThen, Act.eval]) hS1 ?_ AllReadyH.nil)
  clear hrun
  simp only [Act.put, nzA, nzB, nzC]
  refine gsem 10 (some 13) (.agg [.slice (some ⟨B, 0, none⟩) 0 0, .int .i64 R.nx].toArray) rfl (by kernel_rfl) (by kernel_rfl) (by kernel_rfl) (fun _ _ _ h => h) (by kernel_rfl) (by kernel_rfl) (fun X hX => ex_build48 rfl rfl rfl) hS1 ?_
  simp only [Act.put, nzA, nzB, nzC]
  have FIN := clone_fin (R := R) (A := some ⟨B, 0, none⟩) (m := 0) (c := 0) hb1 (by rw [h0]; rfl) (by rw [h0]; exact h12)
  refine wpAnyH_ready (rs := [11]) (by kernel_rfl) (by simp) (gval 11 (some 14) rfl (by kernel_rfl) (by kernel_rfl) (ex_box 48 [.slice (some ⟨B, 0, none⟩) 0 0, .int .i64 R.nx] rfl rfl rfl) (hS1.block (((Below.refl _ _).alloc (Nat.le_refl _) (Obj.cells [.slice (some ⟨B, 0, none⟩) 0 0, .int .i64 R.nx].toArray 48)).block R.t (by have := hb1.size; omega))) ?_ AllReadyH.nil)
  replace hS1 := hS1.block (((Below.refl x1.heap.size x1).alloc (Nat.le_refl _) (Obj.cells [.slice (some ⟨B, 0, none⟩) 0 0, .int .i64 R.nx].toArray 48)).block R.t (by have := hb1.size; omega))
  simp only [Act.put, nzA, nzB, nzC]
  obtain ⟨R', ht, hR'⟩ := FIN
  rw [ht]
  generalize x1.alloc (Obj.cells [.slice (some ⟨B, 0, none⟩) 0 0, .int .i64 R.nx].toArray 48) = x9 at *
  refine gsem 12 (some 2) (.pointer (some ⟨R'.t, 0, none⟩)) rfl (by kernel_rfl) (by kernel_rfl) (by kernel_rfl) (fun _ _ _ h => h) (by kernel_rfl) (by kernel_rfl) (fun _ _ => by kernel_rfl) hS1 ?_
  simp only [Act.put, nzA, nzB, nzC]
  refine wpAnyH_done (by kernel_rfl) ?_ _
  try simp only [Act.put, nzA, nzB, nzC]
  have HF := hide hR'
  clear hR' hS1 ht
  go_wp2
  go_ret
  exact ⟨R', rfl, unhide HF⟩
set_option maxRecDepth 100000 in
theorem refClone_rows (R : RT) (g cap : Nat) (w : World) (hR : R.Is w) (hl : R.es.length ≤ 3000000) (hv : R.lv = .slice (some ⟨g, 0, none⟩) R.es.length cap) : Calls Tryz.prog 25 #[.pointer (some ⟨R.t, 0, none⟩)] w fun e w' => ∃ R' : RT, e = .returned (.pointer (some ⟨R'.t, 0, none⟩)) ∧ R'.Is w' ∧ R'.es = R.es ∧ R'.nx = R.nx ∧ (∀ b ∈ R'.blocks, w.heap.size ≤ b) ∧ Below w.heap.size w w' := by
  have hT : Holds w R.t [.slice (some ⟨g, 0, none⟩) R.es.length cap, .int .i64 R.nx] := by have := hR.tab; unfold RT.cs at this; rw [hv] at this; exact this
  have hO := hR.own
  rw [hv] at hO
  have HT := hide hT
  have HO := hide hO
  have htl := hR.lt R.t (by simp [RT.blocks])
  clear hR hT hO
  go_enter Tryz.func25, Tryz.ntmps25
  go_wp2
  refine wp_region_held_drew (P := Tryz.prog) (S := fun X => Holds X R.t [.slice (some ⟨g, 0, none⟩) R.es.length cap, .int .i64 R.nx]) (by kernel_rfl) ((unhide HT).block rfl) (fun hS0 => ?_)
  refine gsem 1 (some 4) (.pointer (some ⟨R.t, 0, none⟩)) rfl (by kernel_rfl) (by kernel_rfl) (by kernel_rfl) (fun _ _ _ h => h) (by kernel_rfl) (by kernel_rfl) (fun _ _ => by kernel_rfl) hS0 ?_
  simp only [Act.put, nzA, nzB, nzC]
  refine gsem 2 (some 5) (.pointer (some ⟨R.t, 0, none⟩)) rfl (by kernel_rfl) (by kernel_rfl) (by kernel_rfl) (fun _ _ _ h => h) (by kernel_rfl) (by kernel_rfl) (fun _ _ => by kernel_rfl) hS0 ?_
  simp only [Act.put, nzA, nzB, nzC]
  refine gsem 3 (some 6) (.pointer (some ⟨R.t, 0, none⟩)) rfl (by kernel_rfl) (by kernel_rfl) (by kernel_rfl) (fun _ _ _ h => h) (by kernel_rfl) (by kernel_rfl) (fun _ _ => by kernel_rfl) hS0 ?_
  simp only [Act.put, nzA, nzB, nzC]
  refine gsem 4 (some 7) (.slice (some ⟨g, 0, none⟩) R.es.length cap) rfl (by kernel_rfl) (by kernel_rfl) (by kernel_rfl) (fun _ _ _ h => h) (by kernel_rfl) (by kernel_rfl) (fun X hX => ex_load1 46 Tryz.isAgg46 rfl rfl (hX) rfl) hS0 ?_
  simp only [Act.put, nzA, nzB, nzC]
  refine gsem 6 (some 9) (.pointer (some ⟨R.t, 0, none⟩)) rfl (by kernel_rfl) (by kernel_rfl) (by kernel_rfl) (fun _ _ _ h => h) (by kernel_rfl) (by kernel_rfl) (fun _ _ => by kernel_rfl) hS0 ?_
  simp only [Act.put, nzA, nzB, nzC]
  refine gsem 7 (some 10) (.pointer (some ⟨R.t, 0, none⟩)) rfl (by kernel_rfl) (by kernel_rfl) (by kernel_rfl) (fun _ _ _ h => h) (by kernel_rfl) (by kernel_rfl) (fun _ _ => by kernel_rfl) hS0 ?_
  simp only [Act.put, nzA, nzB, nzC]
  refine gsem 8 (some 11) (.pointer (some ⟨R.t, 1, none⟩)) rfl (by kernel_rfl) (by kernel_rfl) (by kernel_rfl) (fun _ _ _ h => h) (by kernel_rfl) (by kernel_rfl) (fun _ _ => by kernel_rfl) hS0 ?_
  simp only [Act.put, nzA, nzB, nzC]
  refine gsem 9 (some 12) (.int .i64 R.nx) rfl (by kernel_rfl) (by kernel_rfl) (by kernel_rfl) (fun _ _ _ h => h) (by kernel_rfl) (by kernel_rfl) (fun X hX => ex_load1 3 Tryz.isAgg3 rfl rfl (hX) rfl) hS0 ?_
  simp only [Act.put, nzA, nzB, nzC]
  have bl := (Below.refl w.drew.heap.size w.drew).alloc (Nat.le_refl _) (Obj.cells #[] 82)
  have hb1 : Below w.heap.size w (w.drew.alloc (Obj.cells #[] 82)) := (below_dr (Below.refl w.heap.size w)).trans bl
  have h12 := own_none w.drew w.heap.size 82 21 (Nat.le_refl _)
  have hS1 := hS0.block (bl.block R.t htl)
  refine wpAnyH_ready (rs := [0]) (by kernel_rfl) (by simp) (gval 0 (some 3) rfl (by kernel_rfl) (by kernel_rfl) (ex_none46 rfl) hS1 ?_ AllReadyH.nil)
  clear hS0
  replace HO := hide (own_block (w' := w.drew.alloc (Obj.cells #[] 82)) (unhide HO) (fun b hb => bl.block b (World.ownsRow.lt (unhide HO) b hb).2))
  clear bl
  generalize w.drew.alloc (Obj.cells #[] 82) = x1 at *
  generalize w.drew.heap.size = B at *
  simp only [Act.put, nzA, nzB, nzC]
  refine wpAnyH_ready (rs := [5]) (by kernel_rfl) (by simp) (gappG 5 (some 8) (v := .slice (some ⟨B, 0, none⟩) 0 0) (B := g) (off := 0) (m := R.es.length) (c := cap) (news := flatE R.es) rfl (by kernel_rfl) (by kernel_rfl) rfl rfl rfl Tryz.underlying46 info82w rfl (by decide) h12 (own_holds (unhide HO)).2 (flatE_len _) (oneE _) (by omega) (by decide) hb1.size (fun X hX => hS1.block (hX.block R.t (by have := hb1.size; omega) (fun e => by have := World.ownsRow.lt h12 R.t e.symm; omega))) ?_ AllReadyH.nil)
  intro A5 c5 x5 h5 hg5 hf5
  have hb5 : Below w.heap.size w x5 := ((Fr.of_below hb1 []).trans (Fr.grown hg5) (fun b hb => Or.inr (World.ownsRow.lt h12 b (by simpa using hb)).1)).below
  replace hS1 := hS1.block (hg5.block R.t (by have := hb1.size; omega) (fun e => by have := World.ownsRow.lt h12 R.t e.symm; omega))
  clear hg5 hf5 hb1 h12
  simp only [Act.put, nzA, nzB, nzC]
  refine gsem 10 (some 13) (.agg [.slice (A5) (0 + R.es.length) c5, .int .i64 R.nx].toArray) rfl (by kernel_rfl) (by kernel_rfl) (by kernel_rfl) (fun _ _ _ h => h) (by kernel_rfl) (by kernel_rfl) (fun X hX => ex_build48 rfl rfl rfl) hS1 ?_
  simp only [Act.put, nzA, nzB, nzC]
  have FIN := clone_fin (R := R) (A := A5) (m := 0 + R.es.length) (c := c5) hb5 (by omega) (by simpa using h5)
  refine wpAnyH_ready (rs := [11]) (by kernel_rfl) (by simp) (gval 11 (some 14) rfl (by kernel_rfl) (by kernel_rfl) (ex_box 48 [.slice (A5) (0 + R.es.length) c5, .int .i64 R.nx] rfl rfl rfl) (hS1.block (((Below.refl _ _).alloc (Nat.le_refl _) (Obj.cells [.slice (A5) (0 + R.es.length) c5, .int .i64 R.nx].toArray 48)).block R.t (by have := hb5.size; omega))) ?_ AllReadyH.nil)
  replace hS1 := hS1.block (((Below.refl x5.heap.size x5).alloc (Nat.le_refl _) (Obj.cells [.slice (A5) (0 + R.es.length) c5, .int .i64 R.nx].toArray 48)).block R.t (by have := hb5.size; omega))
  simp only [Act.put, nzA, nzB, nzC]
  obtain ⟨R', ht, hR'⟩ := FIN
  rw [ht]
  generalize x5.alloc (Obj.cells [.slice (A5) (0 + R.es.length) c5, .int .i64 R.nx].toArray 48) = x9 at *
  refine gsem 12 (some 2) (.pointer (some ⟨R'.t, 0, none⟩)) rfl (by kernel_rfl) (by kernel_rfl) (by kernel_rfl) (fun _ _ _ h => h) (by kernel_rfl) (by kernel_rfl) (fun _ _ => by kernel_rfl) hS1 ?_
  simp only [Act.put, nzA, nzB, nzC]
  refine wpAnyH_done (by kernel_rfl) ?_ _
  try simp only [Act.put, nzA, nzB, nzC]
  have HF := hide hR'
  clear hR' hS1 ht
  go_wp2
  go_ret
  exact ⟨R', rfl, unhide HF⟩
theorem refClone25 (R : RT) (w : World) (hR : R.Is w) (hl : R.es.length ≤ 3000000) : Calls Tryz.prog 25 #[.pointer (some ⟨R.t, 0, none⟩)] w fun e w' => ∃ R' : RT, e = .returned (.pointer (some ⟨R'.t, 0, none⟩)) ∧ R'.Is w' ∧ R'.es = R.es ∧ R'.nx = R.nx ∧ (∀ b ∈ R'.blocks, w.heap.size ≤ b) ∧ Below w.heap.size w w' := by
  rcases hR.own.2 with ⟨h1, h2⟩ | ⟨g, cap, cur, h1, h2⟩
  · exact refClone_nil R w hR hl h1 (List.length_eq_zero_iff.1 h2)
  · exact refClone_rows R g cap w hR hl h1
theorem ret_ct58 {fn : Func} {R : Ending → World → Prop} {a : Act} {w : World} {b r q : Nat} {vs : List Value} {v : Value} {cs : List Value} (hr : fn.results = #[.cell r 58, .tmp q]) (hdf : a.defers = [])
    (hx : a.tmps.getD r undef = .pointer (some ⟨b, 0, none⟩)) (hq : a.tmps.getD q undef = v) (hc : Holds w b cs) (hcs : (cs.drop 0).take 20 = vs) (hvl : vs.length = 20) (h : R (.returned (.tuple #[.agg vs.toArray, v])) w) : bodyPost Tryz.prog fn R .ret a w := by
  obtain ⟨t, hu, hd⟩ := row58
  have h0 := hc.mid 0 20
  rw [hcs] at h0
  have hl := run_loadVar_mid (P := Tryz.prog) w b 0 58 _ t h0 hu hd (by rw [hvl]; exact siz58)
  refine ⟨hdf, _, ?_, h⟩
  simp only [Array.getD_eq_getD_getElem?] at hx hq
  unfold results
  simp [hr, hx, hq, hl, asAddr]
  try rfl
theorem ex_alloc58 {o : Oper} {a : Act} {w : World} (ho : o.op = .alloc 58) : (execOp a.eval o).run Tryz.prog w = .ok (.value (.pointer (some ⟨w.heap.size, 0, none⟩))) (w.alloc (Obj.cells (zeroK.cs ++ zeroD.cs).toArray 58)) := by
  have e : (zeroValue 58).run Tryz.prog w = .ok (.agg (zeroK.cs ++ zeroD.cs).toArray) w := by kernel_rfl
  unfold execOp
  simp only [ho]
  simp [go_sem, e]
theorem al58 {ops : Array Oper} {rest : List Oper} {Q : Exit → Act → World → Prop} {w w0 : World} {a : Act} {o : Oper} {E : List Nat} {L : List (Nat × List Value)} (hw : Region.wanted o (yielded ops a.tmps) = true) (ho : o.op = .alloc 58) (hL : Hq w0 w E L)
    (h : ∀ X B, B = w.heap.size → Hq w0 X E (L ++ [(B, (zeroK.cs ++ zeroD.cs))]) → Below w.heap.size w X → wpList Tryz.prog ops Q rest (a.put o.dst (.pointer (some ⟨B, 0, none⟩))) X) : wpList Tryz.prog ops Q (o :: rest) a w :=
  rdw hw (ex_alloc58 ho) (h _ _ rfl (hL.new (zeroK.cs ++ zeroD.cs) 58 (by decide)) ((Below.refl _ _).alloc (Nat.le_refl _) _))
theorem ex_build58z {o : Oper} {a : Act} {w : World} (ho : o.op = .build 58 #[]) : (execOp a.eval o).run Tryz.prog w = .ok (.value (.agg (zeroK.cs ++ zeroD.cs).toArray)) w := by
  have e : (Instr.build 58 #[]).run Tryz.prog w = .ok (.agg (zeroK.cs ++ zeroD.cs).toArray) w := by kernel_rfl
  unfold execOp
  simp only [ho, List.map_toArray, List.map_nil]
  simp [e]
theorem siz58v (vs : List Value) (h : vs.length = 20) : (Tryz.prog.info? 58).map (·.size) = some vs.length := by rw [h]; exact siz58
theorem onekd (k : KK) (d : DD) : ∀ u ∈ k.cs ++ d.cs, u.oneCell' = true := by simp [KK.cs, DD.cs, VV.cs, Value.oneCell']
set_option maxRecDepth 100000 in
theorem at_out (T : TT) (i : Int) (w : World) (hT : T.Is w) (hi : i < 0 ∨ (T.live.length : Int) ≤ i) : Calls Tryz.prog 22 #[.pointer (some ⟨T.t, 0, none⟩), .int .i64 i] w fun e w' => e = .returned (.tuple #[.agg (zeroK.cs ++ zeroD.cs).toArray, .bool false]) ∧ Below w.heap.size w w' := by
  have C30 : Hid (∀ X, T.Is X → Calls Tryz.prog 30 #[.pointer (some ⟨T.t, 0, none⟩)] X fun e w' => e = .returned (.int .i64 T.live.length) ∧ w' = X) := hide (fun X hX => len30 T X hX)
  have HT := hide hT
  clear hT
  obtain ⟨n, hn⟩ : ∃ n, n = T.live.length := ⟨_, rfl⟩
  rw [← hn] at hi C30
  clear hn
  by_cases h0 : i < 0
  · clear hi
    go_enter Tryz.func22, Tryz.ntmps22
    go_wp2_with (first | go_skip | ((with_reducible show wpList _ _ _ _ _ _); first | ((refine al58 (by rfl) rfl (Hq.nil w []) ?_); intro w1 B hB L1 hb1; have LL := hide L1; have HB1 := hide hb1; have HB := hide hB; have HBle : Hid (w.heap.size ≤ B) := hide (Nat.le_of_eq hB.symm); replace HT := hide ((unhide HT).on hb1); clear hB L1 hb1; simp only [Act.put, nzA, nzB, nzC]) | ((refine rd (by rfl) (ex_build58z rfl) ?_); simp only [Act.put, nzA, nzB, nzC]) | ((with_reducible apply st (vs := (zeroK.cs ++ zeroD.cs)) (v := .agg (zeroK.cs ++ zeroD.cs).toArray) (b := B) (p := 0) 0 58); (case hw => rfl); (case ho => rfl); (case hx => rfl); (case hy => rfl); (case hv => rfl); (case h1 => exact onekd _ _); (case hi => exact siz58v _ rfl); (case hL => exact unhide LL); (case hg => rfl); (case hp => simp [zeroK, zeroD, zeroV, KK.cs, DD.cs, VV.cs]); (case hE => exact Or.inr (unhide HBle)); intro w3 L3 hf3 hs3; replace LL := hide L3; have HF3 := hide hf3; clear L3 hf3 hs3; simp only [Act.put, nzA, nzB, nzC])))
    refine ret_ct58 (vs := (zeroK.cs ++ zeroD.cs)) (r := 4) (q := 5) (b := B) rfl rfl rfl rfl ((unhide LL).get 0 rfl) rfl rfl ⟨rfl, (unhide LL).fr.below⟩
  · have h1 : (n : Int) ≤ i := by omega
    have h0' : decide (i < 0) = false := decide_eq_false h0
    have h1' : decide ((n : Int) ≤ i) = true := decide_eq_true h1
    clear hi
    go_enter Tryz.func22, Tryz.ntmps22
    go_wp2_with (first | go_skip | ((with_reducible show wpList _ _ _ _ _ _); first | ((refine al58 (by rfl) rfl (Hq.nil w []) ?_); intro w1 B hB L1 hb1; have LL := hide L1; have HB1 := hide hb1; have HB := hide hB; have HBle : Hid (w.heap.size ≤ B) := hide (Nat.le_of_eq hB.symm); replace HT := hide ((unhide HT).on hb1); clear hB L1 hb1; simp only [Act.put, nzA, nzB, nzC]) | ((refine rd (by rfl) (ex_build58z rfl) ?_); simp only [Act.put, nzA, nzB, nzC]) | ((with_reducible apply st (vs := (zeroK.cs ++ zeroD.cs)) (v := .agg (zeroK.cs ++ zeroD.cs).toArray) (b := B) (p := 0) 0 58); (case hw => rfl); (case ho => rfl); (case hx => rfl); (case hy => rfl); (case hv => rfl); (case h1 => exact onekd _ _); (case hi => exact siz58v _ rfl); (case hL => exact unhide LL); (case hg => rfl); (case hp => simp [zeroK, zeroD, zeroV, KK.cs, DD.cs, VV.cs]); (case hE => exact Or.inr (unhide HBle)); intro w3 L3 hf3 hs3; replace LL := hide L3; have HF3 := hide hf3; clear L3 hf3 hs3; simp only [Act.put, nzA, nzB, nzC])))
    refine ((unhide C30) w1 (unhide HT)).mono ?_
    rintro _ x6 ⟨rfl, e6⟩
    rw [e6]
    clear e6 x6
    go_wp2_with (first | go_skip | ((with_reducible show wpList _ _ _ _ _ _); first | ((refine al58 (by rfl) rfl (Hq.nil w []) ?_); intro w1 B hB L1 hb1; have LL := hide L1; have HB1 := hide hb1; have HB := hide hB; have HBle : Hid (w.heap.size ≤ B) := hide (Nat.le_of_eq hB.symm); replace HT := hide ((unhide HT).on hb1); clear hB L1 hb1; simp only [Act.put, nzA, nzB, nzC]) | ((refine rd (by rfl) (ex_build58z rfl) ?_); simp only [Act.put, nzA, nzB, nzC]) | ((with_reducible apply st (vs := (zeroK.cs ++ zeroD.cs)) (v := .agg (zeroK.cs ++ zeroD.cs).toArray) (b := B) (p := 0) 0 58); (case hw => rfl); (case ho => rfl); (case hx => rfl); (case hy => rfl); (case hv => rfl); (case h1 => exact onekd _ _); (case hi => exact siz58v _ rfl); (case hL => exact unhide LL); (case hg => rfl); (case hp => simp [zeroK, zeroD, zeroV, KK.cs, DD.cs, VV.cs]); (case hE => exact Or.inr (unhide HBle)); intro w3 L3 hf3 hs3; replace LL := hide L3; have HF3 := hide hf3; clear L3 hf3 hs3; simp only [Act.put, nzA, nzB, nzC])))
    refine ret_ct58 (vs := (zeroK.cs ++ zeroD.cs)) (r := 4) (q := 5) (b := B) rfl rfl rfl rfl ((unhide LL).get 0 rfl) rfl rfl ⟨rfl, (unhide LL).fr.below⟩
set_option maxRecDepth 100000 in
theorem at_in (T : TT) (j : Nat) (w : World) (hT : T.Is w) (hl : T.last < 3000000) (hj : j < T.live.length) : Calls Tryz.prog 22 #[.pointer (some ⟨T.t, 0, none⟩), .int .i64 j] w fun e w' => e = .returned (.tuple #[.agg (T.live[j].k.cs ++ T.live[j].d.cs).toArray, .bool true]) ∧ ∃ T', TT.To T T' w w' ∧ T'.live = T.live := by
  have C30 : Hid (∀ X, T.Is X → Calls Tryz.prog 30 #[.pointer (some ⟨T.t, 0, none⟩)] X fun e w' => e = .returned (.int .i64 T.live.length) ∧ w' = X) := hide (fun X hX => len30 T X hX)
  have C39 : Hid (∀ X, T.Is X → Calls Tryz.prog 39 #[.pointer (some ⟨T.t, 0, none⟩)] X fun e w' => e = .returned (.tuple #[]) ∧ ∃ rv, (T.packed T.m rv).Is w' ∧ Fr X w' [T.t] ∧ (∀ g, rv.ownBlock = some g → T.rv.ownBlock = some g ∨ X.heap.size ≤ g)) := hide (fun X hX => closeGaps39 T X hX hl)
  have HT := hide hT
  have HLT := hide hT.lt
  obtain ⟨n, hn⟩ : ∃ n, n = T.live.length := ⟨_, rfl⟩
  obtain ⟨r, hr⟩ : ∃ r, r = T.live[j] := ⟨_, rfl⟩
  have hrm : Hid (r ∈ T.live) := hide (hr ▸ List.getElem_mem hj)
  have HP : Hid ((ptrs (T.live.map (·.b)))[0 + j]? = some (.pointer (some ⟨r.b, 0, none⟩))) := hide (by rw [hr]; exact ptrs_get T.live j hj)
  have Hn := hide hn
  rw [← hr]
  rw [← hn] at hj C30
  have hjz : (j : Int) < n := by omega
  have hjd : ¬ (j : Int) < 0 := by omega
  have hjn : ¬ (n : Int) ≤ (j : Int) := by omega
  clear hT hn hr hl
  go_enter Tryz.func22, Tryz.ntmps22
  go_wp2_with (first | go_skip | ((with_reducible show wpList _ _ _ _ _ _); first | ((refine al58 (by rfl) rfl (Hq.nil w T.blocks) ?_); intro w1 B hB L1 hb1; have LL := hide L1; have HB1 := hide hb1; have HB := hide hB; have HBle : Hid (w.heap.size ≤ B) := hide (Nat.le_of_eq hB.symm); replace HT := hide ((unhide HT).on hb1); clear hB L1 hb1; simp only [Act.put, nzA, nzB, nzC])))
  refine ((unhide C30) w1 (unhide HT)).mono ?_
  rintro _ x6 ⟨rfl, e6⟩
  rw [e6]
  clear e6 x6
  go_wp2_with fail
  refine ((unhide C39) w1 (unhide HT)).mono ?_
  rintro _ w2 ⟨rfl, rv, hT2, hf2, hb2⟩
  obtain ⟨A, c, hrv⟩ := own_form hT2.own
  replace hrv : rv = .slice A n c := by
    rw [unhide Hn]
    simpa [TT.packed] using hrv
  subst hrv
  have hown : w2.ownsRow 0 74 1 (.slice A (T.live.map (·.b)).length c) (T.live.map (·.b)).length (ptrs (T.live.map (·.b))) := by
    have h1 := hT2.own
    have e := unhide Hn
    unfold OwnP TT.packed at h1
    simp only at h1
    rw [List.length_map, ← e] at h1 ⊢
    exact h1
  have htl := (unhide HLT) T.t (by simp [TT.blocks])
  obtain ⟨g, rfl, -, hgl⟩ := own_some hown (by have := unhide Hn; simp; omega)
  have HG : Hid (Holds w2 g (ptrs (T.live.map (·.b)))) := hide (own_holds hown)
  have HV : Hid (Holds w2 T.t [.map (some T.m), .slice (some ⟨g, 0, none⟩) n c, .int .u64 T.last]) := hide hT2.tab
  have HRr : Hid (Holds w2 r.b r.cs) := hide (hT2.rows r (unhide hrm))
  have hBlt : B < w1.heap.size := (unhide LL).lt (B, (zeroK.cs ++ zeroD.cs)) (by simp)
  have hBe := unhide HB
  have hne : ∀ b ∈ (T.packed T.m (.slice (some ⟨g, 0, none⟩) n c)).blocks, b ∉ [B] := by
    intro b hb hm
    obtain rfl : b = B := by simpa using hm
    simp only [TT.blocks, TT.packed, List.mem_cons, List.mem_append] at hb
    have hlt := unhide HLT
    rcases hb with h1 | h1 | h1 | h1
    · omega
    · have := hlt T.m (by simp [TT.blocks]); omega
    · rcases hb2 b (by simpa using h1) with h2 | h2
      · have := hlt b (by unfold TT.blocks; rw [h2]; simp); omega
      · omega
    · have := hlt b (by unfold TT.blocks; simp only [List.mem_cons, List.mem_append]; exact .inr (.inr (.inr (live_sub T b h1)))); omega
  have HNE := hide hne
  have HNW : Hid (∀ b ∈ (T.packed T.m (.slice (some ⟨g, 0, none⟩) n c)).blocks, b ∈ T.blocks ∨ w.heap.size ≤ b) := hide (by
    intro b hb
    simp only [TT.blocks, TT.packed, List.mem_cons, List.mem_append] at hb ⊢
    rcases hb with h1 | h1 | h1 | h1
    · exact .inl (.inl h1)
    · exact .inl (.inr (.inl h1))
    · rcases hb2 b (by simpa using h1) with h2 | h2
      · exact .inl (.inr (.inr (.inl (by rw [h2]; simp))))
      · exact .inr (by omega)
    · exact .inl (.inr (.inr (.inr (live_sub T b h1)))))
  have HNU : Hid (T.Nu (T.packed T.m (.slice (some ⟨g, 0, none⟩) n c)) w w2) := hide ((TT.Nu.below T (unhide HB1)).trans (TT.Nu.of_fr hf2 (fun b hb => .inl (by simpa using hb)) (fun b hb => by
    simp only [TT.hot, TT.packed, List.mem_cons] at hb ⊢
    rcases hb with h1 | h1 | h1
    · exact .inl (.inl h1)
    · exact .inl (.inr (.inl h1))
    · rcases hb2 b (by simpa using h1) with h2 | h2
      · exact .inl (.inr (.inr (by rw [h2]; simp)))
      · exact .inr h2)) (unhide HB1).size)
  have HSZ : Hid (w.heap.size ≤ w2.heap.size ∧ w.heap.size ≤ B) := hide ⟨Nat.le_trans (unhide HB1).size hf2.size, unhide HBle⟩
  have HT2 := hide hT2
  replace LL := hide ((unhide LL).step hf2 (fun b hb => .inl (by obtain rfl : b = T.t := (by simpa using hb); simp [TT.blocks])) (fun q hq hm => by
    obtain rfl : q = (B, (zeroK.cs ++ zeroD.cs)) := by simpa using hq
    have e : B = T.t := by simpa using hm
    omega))
  clear hne hBlt hBe hT2 hf2 hb2 hown hgl htl HT C30 C39 HLT
  go_wp2_with (first | go_skip | ((with_reducible show wpList _ _ _ _ _ _); first | ((refine rd (by rfl) (ex_load1 70 Tryz.isAgg70 rfl rfl (unhide HV) rfl) ?_); simp only [Act.put, nzA, nzB, nzC]) | ((refine rd (by rfl) (ex_index70 (off := 0) j rfl rfl rfl hj) ?_); simp only [Act.put, nzA, nzB, nzC]) | ((refine rd (by rfl) (ex_load1 74 Tryz.isAgg74 rfl rfl (unhide HG) (unhide HP)) ?_); simp only [Act.put, nzA, nzB, nzC]) | ((refine rd (by rfl) (ex_loadN (vs := r.k.cs ++ r.d.cs) 58 20 row58 siz58 rfl rfl (unhide HRr) rfl rfl) ?_); simp only [Act.put, nzA, nzB, nzC]) | ((with_reducible apply st (vs := (r.k.cs ++ r.d.cs)) (v := .agg (r.k.cs ++ r.d.cs).toArray) (b := B) (p := 0) 0 58); (case hw => rfl); (case ho => rfl); (case hx => rfl); (case hy => rfl); (case hv => rfl); (case h1 => exact onekd _ _); (case hi => exact siz58v _ rfl); (case hL => exact unhide LL); (case hg => rfl); (case hp => simp [zeroK, zeroD, zeroV, KK.cs, DD.cs, VV.cs]); (case hE => exact Or.inr (unhide HBle)); intro w3 L3 hf3 hs3; replace LL := hide L3; have HF3 := hide hf3; clear L3 hf3 hs3; simp only [Act.put, nzA, nzB, nzC])))
  refine ret_ct58 (vs := r.k.cs ++ r.d.cs) (r := 4) (q := 5) (b := B) rfl rfl rfl rfl ((unhide LL).get 0 rfl) rfl rfl ⟨rfl, _, ⟨(unhide HT2).fr (unhide HF3) (unhide HNE), rfl, rfl, (unhide LL).fr, unhide HNW, ⟨(unhide HNU).hot, fun b hb hn => (cell_blk ((unhide HF3).block b (by have := (unhide HSZ).1; omega) (by have := (unhide HSZ).2; simp; omega))).trans ((unhide HNU).keep b hb hn)⟩⟩, TT.packed_live _ _ _⟩
