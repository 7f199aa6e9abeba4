import Derived.Test.YtkpfikeggleenaaGreatDoorUd

/-! Xn -/
namespace Go.Proofs.YtkpfikeggleenaaGreatDoor
open Go Go.Proofs Go.Maps Go.RowKit
set_option linter.unusedSimpArgs false
set_option linter.unusedVariables false
set_option maxHeartbeats 1000000
theorem row37 : ∃ d, Tryz.prog.underlying 37 = some d ∧ d.isRow = true := ⟨_, Tryz.underlying37, rfl⟩
theorem siz37 : (Tryz.prog.info? 37).map (·.size) = some 8 := by kernel_rfl
/-- An act. -/
structure AC where
  k : Int
  v : VV
  s : ByteArray
  n : Int
def AC.cs (a : AC) : List Value := .int .i64 a.k :: (a.v.cs ++ [.string a.s, .int .i64 a.n])
abbrev P4 (R0 R1 : RG) (Q0 Q1 : RF) : List Value := [pt R0.r, pt R1.r, pt Q0.r, pt Q1.r]
structure PB (w0 W : World) (P : Nat) (R0 R1 : RG) (Q0 Q1 : RF) (B : Nat) (a : AC) : Prop where
  ps : PS w0 W P R0 R1 Q0 Q1
  hb : Holds W B a.cs
  b0 : B ∉ R0.blocks
  b2 : B ∉ Q0.blocks
section
variable {w0 W X Y : World} {P B : Nat} {R0 R1 R0' : RG} {Q0 Q1 Q0' : RF} {a : AC}
theorem PB.lt (h : PB w0 W P R0 R1 Q0 Q1 B a) : B < W.heap.size := h.hb.lt (Nat.succ_pos _)
theorem PB.on (h : PB w0 W P R0 R1 Q0 Q1 B a) (k : Below W.heap.size W X) : PB w0 X P R0 R1 Q0 Q1 B a := ⟨h.ps.on k, h.hb.block (k.block _ h.lt), h.b0, h.b2⟩
theorem PB.drew (h : PB w0 W P R0 R1 Q0 Q1 B a) : PB w0 W.drew P R0 R1 Q0 Q1 B a := h.on (below_dr (Below.refl _ _))
theorem PB.s (h : PB w0 W P R0 R1 Q0 Q1 B a) : Holds W P (P4 R0 R1 Q0 Q1) ∧ Holds W B a.cs := ⟨h.ps.hold, h.hb⟩
theorem PB.mv0 (h : PB w0 W P R0 R1 Q0 Q1 B a) (hp : PS w0 X P R0' R1 Q0 Q1) (hm : Mv W X R0.blocks R0'.blocks R0.r R0'.r) : PB w0 X P R0' R1 Q0 Q1 B a :=
  ⟨hp, h.hb.block (hm.1.block _ h.lt h.b0), fun hb => (hm.2.2 B hb).elim h.b0 (fun hh => by have := h.lt; omega), h.b2⟩
theorem PB.mv2 (h : PB w0 W P R0 R1 Q0 Q1 B a) (hp : PS w0 X P R0 R1 Q0' Q1) (hm : Mv W X Q0.blocks Q0'.blocks Q0.r Q0'.r) : PB w0 X P R0 R1 Q0' Q1 B a :=
  ⟨hp, h.hb.block (hm.1.block _ h.lt h.b2), h.b0, fun hb => (hm.2.2 B hb).elim h.b2 (fun hh => by have := h.lt; omega)⟩
theorem PB.new (h : PS w0 W P R0 R1 Q0 Q1) (hb : Below W.heap.size W X) (hB : W.heap.size ≤ B) (hh : Holds X B a.cs) : PB w0 X P R0 R1 Q0 Q1 B a :=
  ⟨h.on hb, hh, fun hm => by have := h.o0.lt B hm; omega, fun hm => by have := h.f0.lt B hm; omega⟩
end
/-- What an act leaves. -/
def Left (w0 W : World) (P : Nat) : Prop := ∃ R0 R1 Q0 Q1, PS w0 W P R0 R1 Q0 Q1 ∧ Q0.l = R0.l ∧ Q1.l = R1.l
theorem Left.on {w0 W X : World} {P : Nat} (h : Left w0 W P) (hb : Below W.heap.size W X) : Left w0 X P := by
  obtain ⟨R0, R1, Q0, Q1, h1, h2⟩ := h
  exact ⟨R0, R1, Q0, Q1, h1.on hb, h2⟩
set_option maxHeartbeats 2000000 in
set_option maxRecDepth 100000 in
theorem play_make {w0 : World} {P : Nat} {R0 R1 : RG} {Q0 Q1 : RF} (v : VV) (s : ByteArray) (n : Int) (w : World) (hP : PS w0 w P R0 R1 Q0 Q1) (e0 : Q0.l = R0.l) (e1 : Q1.l = R1.l) (hT : Tabs w0) (hx : v.x < 2 ^ 64) : Calls Tryz.prog 6 #[pt P, .agg (AC.mk 1 v s n).cs.toArray] w fun e w' => e = .returned (.bool true) ∧ Left w0 w' P := by
  have HPS := hide hP
  have HE := hide (And.intro e0 e1)
  have HT := hide hT
  have LL := hide (Hq.nil w [])
  clear hP e0 e1 hT
  obtain ⟨N, E, hE, c1⟩ := make_both (unhide HPS) (unhide HE).1 (unhide HT) v hx
  have HEE := hide hE
  have C1 := hide c1
  clear hE c1
  go_enter Tryz.func6, Tryz.ntmps6
  go_wp2_with (first | go_skip | ((with_reducible show wpList _ _ _ _ _ _); first | ((refine bx 37 ((AC.mk 1 v s n).cs) (by rfl) rfl rfl rfl (Nat.succ_pos _) (unhide LL) ?_); intro X1 B1 hE1 L1 hb1; have hB1 := hide (Nat.le_trans (unhide LL).fr.size (Nat.le_of_eq hE1.symm)); replace LL := hide L1; have HB := hide (PB.new (a := (AC.mk 1 v s n)) (unhide HPS) hb1 (unhide hB1) ((unhide LL).get 0 rfl)); clear L1 hb1 hE1; simp only [Act.put, List.setIfInBounds_toArray, List.set_cons_succ, List.set_cons_zero]) | ((refine rd (by rfl) (ex_load1 3 Tryz.isAgg3 rfl rfl ((unhide LL).get 0 rfl) rfl) ?_); simp only [Act.put, List.setIfInBounds_toArray, List.set_cons_succ, List.set_cons_zero])))
  have s0 := (unhide HB).drew.s
  have c1 := unhide C1 X1.drew (below_dr (unhide LL).fr.below)
  refine wp_region_held_drew (P := Tryz.prog) (S := fun X => Holds X P (P4 R0 R1 Q0 Q1) ∧ Holds X B1 (AC.mk 1 v s n).cs) (by kernel_rfl) s0 (fun hS0 => ?_)
  refine gsem 0 (some 23) (pt P) rfl (by kernel_rfl) (by kernel_rfl) (by kernel_rfl) (fun _ _ _ h => h) (by kernel_rfl) (by kernel_rfl) (fun _ _ => by kernel_rfl) s0 ?_
  simp only [Act.put, List.setIfInBounds_toArray, List.set_cons_succ, List.set_cons_zero]
  refine gsem 1 (some 24) (pt P) rfl (by kernel_rfl) (by kernel_rfl) (by kernel_rfl) (fun _ _ _ h => h) (by kernel_rfl) (by kernel_rfl) (fun _ _ => by kernel_rfl) s0 ?_
  simp only [Act.put, List.setIfInBounds_toArray, List.set_cons_succ, List.set_cons_zero]
  refine gsem 2 (some 25) (.pointer (some ⟨P, 0, none⟩)) rfl (by kernel_rfl) (by kernel_rfl) (by kernel_rfl) (fun _ _ _ h => h) (by kernel_rfl) (by kernel_rfl) (fun _ _ => by kernel_rfl) s0 ?_
  simp only [Act.put, List.setIfInBounds_toArray, List.set_cons_succ, List.set_cons_zero]
  refine gsem 3 (some 26) (.pointer (some ⟨P, 0, none⟩)) rfl (by kernel_rfl) (by kernel_rfl) (by kernel_rfl) (fun _ _ _ h => h) (by kernel_rfl) (by kernel_rfl) (fun X hX => ex_indexA 27 2 1 0 und27 len27 idx27 rfl rfl rfl (by decide)) s0 ?_
  simp only [Act.put, List.setIfInBounds_toArray, List.set_cons_succ, List.set_cons_zero]
  refine gsem 4 (some 27) (pt R0.r) rfl (by kernel_rfl) (by kernel_rfl) (by kernel_rfl) (fun _ _ _ h => h) (by kernel_rfl) (by kernel_rfl) (fun X hX => ex_load1 26 Tryz.isAgg26 rfl rfl (hX.1) rfl) s0 ?_
  simp only [Act.put, List.setIfInBounds_toArray, List.set_cons_succ, List.set_cons_zero]
  refine gsem 5 (some 28) (.pointer (some ⟨B1, 1, none⟩)) rfl (by kernel_rfl) (by kernel_rfl) (by kernel_rfl) (fun _ _ _ h => h) (by kernel_rfl) (by kernel_rfl) (fun _ _ => by kernel_rfl) s0 ?_
  simp only [Act.put, List.setIfInBounds_toArray, List.set_cons_succ, List.set_cons_zero]
  refine gsem 6 (some 29) (.agg v.cs.toArray) rfl (by kernel_rfl) (by kernel_rfl) (by kernel_rfl) (fun _ _ _ h => h) (by kernel_rfl) (by kernel_rfl) (fun X hX => ex_loadN (vs := v.cs) 35 5 row35 siz35 rfl rfl (hX.2) rfl rfl) s0 ?_
  simp only [Act.put, List.setIfInBounds_toArray, List.set_cons_succ, List.set_cons_zero]
  refine wpAnyH_ready (rs := [7]) (by kernel_rfl) (by simp) (gcallR 7 (some 30) rfl (by kernel_rfl) (by kernel_rfl) (by kernel_rfl) c1 ?_ AllReadyH.nil)
  rintro e X2 ⟨rfl, R0', hp2, hm2, c2⟩
  have hq2 := (unhide HB).drew.mv0 hp2 hm2
  have s2 : Holds X2 P (P4 R0 R1 Q0 Q1) ∧ Holds X2 B1 (AC.mk 1 v s n).cs := ⟨by have := hq2.ps.hold; rw [hm2.2.1] at this; exact this, hq2.hb⟩
  refine ⟨_, rfl, s2, ?_⟩
  simp only [Act.put, List.setIfInBounds_toArray, List.set_cons_succ, List.set_cons_zero]
  refine gsem 8 (some 22) (.tuple #[.int .i64 N, .int .i64 E]) rfl (by kernel_rfl) (by kernel_rfl) (by kernel_rfl) (fun _ _ _ h => h) (by kernel_rfl) (by kernel_rfl) (fun _ _ => by kernel_rfl) s2 ?_
  simp only [Act.put, List.setIfInBounds_toArray, List.set_cons_succ, List.set_cons_zero]
  refine gsem 9 (some 31) (.int .i64 N) rfl (by kernel_rfl) (by kernel_rfl) (by kernel_rfl) (fun _ _ _ h => h) (by kernel_rfl) (by kernel_rfl) (fun _ _ => by kernel_rfl) s2 ?_
  simp only [Act.put, List.setIfInBounds_toArray, List.set_cons_succ, List.set_cons_zero]
  refine gsem 10 (some 32) (.int .i64 E) rfl (by kernel_rfl) (by kernel_rfl) (by kernel_rfl) (fun _ _ _ h => h) (by kernel_rfl) (by kernel_rfl) (fun _ _ => by kernel_rfl) s2 ?_
  simp only [Act.put, List.setIfInBounds_toArray, List.set_cons_succ, List.set_cons_zero]
  refine gsem 11 (some 5) (.int .i64 N) rfl (by kernel_rfl) (by kernel_rfl) (by kernel_rfl) (fun _ _ _ h => h) (by kernel_rfl) (by kernel_rfl) (fun _ _ => by kernel_rfl) s2 ?_
  simp only [Act.put, List.setIfInBounds_toArray, List.set_cons_succ, List.set_cons_zero]
  refine gsem 12 (some 6) (.int .i64 E) rfl (by kernel_rfl) (by kernel_rfl) (by kernel_rfl) (fun _ _ _ h => h) (by kernel_rfl) (by kernel_rfl) (fun _ _ => by kernel_rfl) s2 ?_
  simp only [Act.put, List.setIfInBounds_toArray, List.set_cons_succ, List.set_cons_zero]
  refine wpAnyH_done (by kernel_rfl) ?_ _
  try simp only [Act.put, List.setIfInBounds_toArray, List.set_cons_succ, List.set_cons_zero]
  have HB2 := hide hq2
  have C2 := hide c2
  clear c1 c2 s0 s2 hS0 hp2 hm2 hq2 HB C1 LL
  go_wp2
  have s0 := (unhide HB2).drew.s
  have c1 := unhide C2 X2.drew (below_dr (Below.refl _ _))
  refine wp_region_held_drew (P := Tryz.prog) (S := fun X => Holds X P (P4 R0' R1 Q0 Q1) ∧ Holds X B1 (AC.mk 1 v s n).cs) (by kernel_rfl) s0 (fun hS0 => ?_)
  refine gsem 0 (some 34) (pt P) rfl (by kernel_rfl) (by kernel_rfl) (by kernel_rfl) (fun _ _ _ h => h) (by kernel_rfl) (by kernel_rfl) (fun _ _ => by kernel_rfl) s0 ?_
  simp only [Act.put, List.setIfInBounds_toArray, List.set_cons_succ, List.set_cons_zero]
  refine gsem 1 (some 35) (pt P) rfl (by kernel_rfl) (by kernel_rfl) (by kernel_rfl) (fun _ _ _ h => h) (by kernel_rfl) (by kernel_rfl) (fun _ _ => by kernel_rfl) s0 ?_
  simp only [Act.put, List.setIfInBounds_toArray, List.set_cons_succ, List.set_cons_zero]
  refine gsem 2 (some 36) (.pointer (some ⟨P, 2, none⟩)) rfl (by kernel_rfl) (by kernel_rfl) (by kernel_rfl) (fun _ _ _ h => h) (by kernel_rfl) (by kernel_rfl) (fun _ _ => by kernel_rfl) s0 ?_
  simp only [Act.put, List.setIfInBounds_toArray, List.set_cons_succ, List.set_cons_zero]
  refine gsem 3 (some 37) (.pointer (some ⟨P, 2, none⟩)) rfl (by kernel_rfl) (by kernel_rfl) (by kernel_rfl) (fun _ _ _ h => h) (by kernel_rfl) (by kernel_rfl) (fun X hX => ex_indexA 29 2 1 0 und29 len29 idx29 rfl rfl rfl (by decide)) s0 ?_
  simp only [Act.put, List.setIfInBounds_toArray, List.set_cons_succ, List.set_cons_zero]
  refine gsem 4 (some 38) (pt Q0.r) rfl (by kernel_rfl) (by kernel_rfl) (by kernel_rfl) (fun _ _ _ h => h) (by kernel_rfl) (by kernel_rfl) (fun X hX => ex_load1 28 Tryz.isAgg28 rfl rfl (hX.1) rfl) s0 ?_
  simp only [Act.put, List.setIfInBounds_toArray, List.set_cons_succ, List.set_cons_zero]
  refine gsem 5 (some 39) (.pointer (some ⟨B1, 1, none⟩)) rfl (by kernel_rfl) (by kernel_rfl) (by kernel_rfl) (fun _ _ _ h => h) (by kernel_rfl) (by kernel_rfl) (fun _ _ => by kernel_rfl) s0 ?_
  simp only [Act.put, List.setIfInBounds_toArray, List.set_cons_succ, List.set_cons_zero]
  refine gsem 6 (some 40) (.agg v.cs.toArray) rfl (by kernel_rfl) (by kernel_rfl) (by kernel_rfl) (fun _ _ _ h => h) (by kernel_rfl) (by kernel_rfl) (fun X hX => ex_loadN (vs := v.cs) 35 5 row35 siz35 rfl rfl (hX.2) rfl rfl) s0 ?_
  simp only [Act.put, List.setIfInBounds_toArray, List.set_cons_succ, List.set_cons_zero]
  refine wpAnyH_ready (rs := [7]) (by kernel_rfl) (by simp) (gcallR 7 (some 41) rfl (by kernel_rfl) (by kernel_rfl) (by kernel_rfl) c1 ?_ AllReadyH.nil)
  rintro e X3 ⟨rfl, Q0', hp3, hl3, hm3⟩
  have hq3 := (unhide HB2).drew.mv2 hp3 hm3
  have s3 : Holds X3 P (P4 R0' R1 Q0 Q1) ∧ Holds X3 B1 (AC.mk 1 v s n).cs := ⟨by have := hq3.ps.hold; rw [hm3.2.1] at this; exact this, hq3.hb⟩
  refine ⟨_, rfl, s3, ?_⟩
  simp only [Act.put, List.setIfInBounds_toArray, List.set_cons_succ, List.set_cons_zero]
  refine gsem 8 (some 33) (.tuple #[.int .i64 N, .int .i64 E]) rfl (by kernel_rfl) (by kernel_rfl) (by kernel_rfl) (fun _ _ _ h => h) (by kernel_rfl) (by kernel_rfl) (fun _ _ => by kernel_rfl) s3 ?_
  simp only [Act.put, List.setIfInBounds_toArray, List.set_cons_succ, List.set_cons_zero]
  refine gsem 9 (some 42) (.int .i64 N) rfl (by kernel_rfl) (by kernel_rfl) (by kernel_rfl) (fun _ _ _ h => h) (by kernel_rfl) (by kernel_rfl) (fun _ _ => by kernel_rfl) s3 ?_
  simp only [Act.put, List.setIfInBounds_toArray, List.set_cons_succ, List.set_cons_zero]
  refine gsem 10 (some 43) (.int .i64 E) rfl (by kernel_rfl) (by kernel_rfl) (by kernel_rfl) (fun _ _ _ h => h) (by kernel_rfl) (by kernel_rfl) (fun _ _ => by kernel_rfl) s3 ?_
  simp only [Act.put, List.setIfInBounds_toArray, List.set_cons_succ, List.set_cons_zero]
  refine gsem 11 (some 7) (.int .i64 N) rfl (by kernel_rfl) (by kernel_rfl) (by kernel_rfl) (fun _ _ _ h => h) (by kernel_rfl) (by kernel_rfl) (fun _ _ => by kernel_rfl) s3 ?_
  simp only [Act.put, List.setIfInBounds_toArray, List.set_cons_succ, List.set_cons_zero]
  refine gsem 12 (some 8) (.int .i64 E) rfl (by kernel_rfl) (by kernel_rfl) (by kernel_rfl) (fun _ _ _ h => h) (by kernel_rfl) (by kernel_rfl) (fun _ _ => by kernel_rfl) s3 ?_
  simp only [Act.put, List.setIfInBounds_toArray, List.set_cons_succ, List.set_cons_zero]
  refine wpAnyH_done (by kernel_rfl) ?_ _
  try simp only [Act.put, List.setIfInBounds_toArray, List.set_cons_succ, List.set_cons_zero]
  have FIN : Hid (Left w0 X3 P) := hide ⟨R0', R1, Q0', Q1, hp3, hl3, (unhide HE).2⟩
  clear c1 s0 s3 hS0 hp3 hl3 hm3 hq3 HB2 C2
  go_wp2_with fail
  refine (num16 E (unhide HEE) _).mono ?_
  rintro e X9 ⟨rfl, h9⟩
  rw [h9]
  clear h9 X9
  go_wp2
  go_ret
  exact ⟨by simp, unhide FIN⟩
set_option maxHeartbeats 2000000 in
set_option maxRecDepth 100000 in
theorem play_for {w0 : World} {P : Nat} {R0 R1 : RG} {Q0 Q1 : RF} (v : VV) (s : ByteArray) (n : Int) (w : World) (hP : PS w0 w P R0 R1 Q0 Q1) (e0 : Q0.l = R0.l) (e1 : Q1.l = R1.l) (hT : Tabs w0) : Calls Tryz.prog 6 #[pt P, .agg (AC.mk 2 v s n).cs.toArray] w fun e w' => e = .returned (.bool true) ∧ Left w0 w' P := by
  have HPS := hide hP
  have HE := hide (And.intro e0 e1)
  have HT := hide hT
  have LL := hide (Hq.nil w [])
  clear hP e0 e1 hT
  obtain ⟨N, E, hE, c1⟩ := for_both (unhide HPS) (unhide HE).1 (unhide HT) s
  have HEE := hide hE
  have C1 := hide c1
  clear hE c1
  go_enter Tryz.func6, Tryz.ntmps6
  go_wp2_with (first | go_skip | ((with_reducible show wpList _ _ _ _ _ _); first | ((refine bx 37 ((AC.mk 2 v s n).cs) (by rfl) rfl rfl rfl (Nat.succ_pos _) (unhide LL) ?_); intro X1 B1 hE1 L1 hb1; have hB1 := hide (Nat.le_trans (unhide LL).fr.size (Nat.le_of_eq hE1.symm)); replace LL := hide L1; have HB := hide (PB.new (a := (AC.mk 2 v s n)) (unhide HPS) hb1 (unhide hB1) ((unhide LL).get 0 rfl)); clear L1 hb1 hE1; simp only [Act.put, List.setIfInBounds_toArray, List.set_cons_succ, List.set_cons_zero]) | ((refine rd (by rfl) (ex_load1 3 Tryz.isAgg3 rfl rfl ((unhide LL).get 0 rfl) rfl) ?_); simp only [Act.put, List.setIfInBounds_toArray, List.set_cons_succ, List.set_cons_zero])))
  have s0 := (unhide HB).drew.s
  have c1 := unhide C1 X1.drew (below_dr (unhide LL).fr.below)
  refine wp_region_held_drew (P := Tryz.prog) (S := fun X => Holds X P (P4 R0 R1 Q0 Q1) ∧ Holds X B1 (AC.mk 2 v s n).cs) (by kernel_rfl) s0 (fun hS0 => ?_)
  refine gsem 0 (some 56) (pt P) rfl (by kernel_rfl) (by kernel_rfl) (by kernel_rfl) (fun _ _ _ h => h) (by kernel_rfl) (by kernel_rfl) (fun _ _ => by kernel_rfl) s0 ?_
  simp only [Act.put, List.setIfInBounds_toArray, List.set_cons_succ, List.set_cons_zero]
  refine gsem 1 (some 57) (pt P) rfl (by kernel_rfl) (by kernel_rfl) (by kernel_rfl) (fun _ _ _ h => h) (by kernel_rfl) (by kernel_rfl) (fun _ _ => by kernel_rfl) s0 ?_
  simp only [Act.put, List.setIfInBounds_toArray, List.set_cons_succ, List.set_cons_zero]
  refine gsem 2 (some 58) (.pointer (some ⟨P, 0, none⟩)) rfl (by kernel_rfl) (by kernel_rfl) (by kernel_rfl) (fun _ _ _ h => h) (by kernel_rfl) (by kernel_rfl) (fun _ _ => by kernel_rfl) s0 ?_
  simp only [Act.put, List.setIfInBounds_toArray, List.set_cons_succ, List.set_cons_zero]
  refine gsem 3 (some 59) (.pointer (some ⟨P, 0, none⟩)) rfl (by kernel_rfl) (by kernel_rfl) (by kernel_rfl) (fun _ _ _ h => h) (by kernel_rfl) (by kernel_rfl) (fun X hX => ex_indexA 27 2 1 0 und27 len27 idx27 rfl rfl rfl (by decide)) s0 ?_
  simp only [Act.put, List.setIfInBounds_toArray, List.set_cons_succ, List.set_cons_zero]
  refine gsem 4 (some 60) (pt R0.r) rfl (by kernel_rfl) (by kernel_rfl) (by kernel_rfl) (fun _ _ _ h => h) (by kernel_rfl) (by kernel_rfl) (fun X hX => ex_load1 26 Tryz.isAgg26 rfl rfl (hX.1) rfl) s0 ?_
  simp only [Act.put, List.setIfInBounds_toArray, List.set_cons_succ, List.set_cons_zero]
  refine gsem 5 (some 61) (.pointer (some ⟨B1, 6, none⟩)) rfl (by kernel_rfl) (by kernel_rfl) (by kernel_rfl) (fun _ _ _ h => h) (by kernel_rfl) (by kernel_rfl) (fun _ _ => by kernel_rfl) s0 ?_
  simp only [Act.put, List.setIfInBounds_toArray, List.set_cons_succ, List.set_cons_zero]
  refine gsem 6 (some 62) (.string s) rfl (by kernel_rfl) (by kernel_rfl) (by kernel_rfl) (fun _ _ _ h => h) (by kernel_rfl) (by kernel_rfl) (fun X hX => ex_load1 9 Tryz.isAgg9 rfl rfl (hX.2) rfl) s0 ?_
  simp only [Act.put, List.setIfInBounds_toArray, List.set_cons_succ, List.set_cons_zero]
  refine wpAnyH_ready (rs := [7]) (by kernel_rfl) (by simp) (gcallR 7 (some 63) rfl (by kernel_rfl) (by kernel_rfl) (by kernel_rfl) c1 ?_ AllReadyH.nil)
  rintro e X2 ⟨rfl, R0', hp2, hm2, c2⟩
  have hq2 := (unhide HB).drew.mv0 hp2 hm2
  have s2 : Holds X2 P (P4 R0 R1 Q0 Q1) ∧ Holds X2 B1 (AC.mk 2 v s n).cs := ⟨by have := hq2.ps.hold; rw [hm2.2.1] at this; exact this, hq2.hb⟩
  refine ⟨_, rfl, s2, ?_⟩
  simp only [Act.put, List.setIfInBounds_toArray, List.set_cons_succ, List.set_cons_zero]
  refine gsem 8 (some 55) (.tuple #[.int .i64 N, .int .i64 E]) rfl (by kernel_rfl) (by kernel_rfl) (by kernel_rfl) (fun _ _ _ h => h) (by kernel_rfl) (by kernel_rfl) (fun _ _ => by kernel_rfl) s2 ?_
  simp only [Act.put, List.setIfInBounds_toArray, List.set_cons_succ, List.set_cons_zero]
  refine gsem 9 (some 64) (.int .i64 N) rfl (by kernel_rfl) (by kernel_rfl) (by kernel_rfl) (fun _ _ _ h => h) (by kernel_rfl) (by kernel_rfl) (fun _ _ => by kernel_rfl) s2 ?_
  simp only [Act.put, List.setIfInBounds_toArray, List.set_cons_succ, List.set_cons_zero]
  refine gsem 10 (some 65) (.int .i64 E) rfl (by kernel_rfl) (by kernel_rfl) (by kernel_rfl) (fun _ _ _ h => h) (by kernel_rfl) (by kernel_rfl) (fun _ _ => by kernel_rfl) s2 ?_
  simp only [Act.put, List.setIfInBounds_toArray, List.set_cons_succ, List.set_cons_zero]
  refine gsem 11 (some 9) (.int .i64 N) rfl (by kernel_rfl) (by kernel_rfl) (by kernel_rfl) (fun _ _ _ h => h) (by kernel_rfl) (by kernel_rfl) (fun _ _ => by kernel_rfl) s2 ?_
  simp only [Act.put, List.setIfInBounds_toArray, List.set_cons_succ, List.set_cons_zero]
  refine gsem 12 (some 10) (.int .i64 E) rfl (by kernel_rfl) (by kernel_rfl) (by kernel_rfl) (fun _ _ _ h => h) (by kernel_rfl) (by kernel_rfl) (fun _ _ => by kernel_rfl) s2 ?_
  simp only [Act.put, List.setIfInBounds_toArray, List.set_cons_succ, List.set_cons_zero]
  refine wpAnyH_done (by kernel_rfl) ?_ _
  try simp only [Act.put, List.setIfInBounds_toArray, List.set_cons_succ, List.set_cons_zero]
  have HB2 := hide hq2
  have C2 := hide c2
  clear c1 c2 s0 s2 hS0 hp2 hm2 hq2 HB C1 LL
  go_wp2
  have s0 := (unhide HB2).drew.s
  have c1 := unhide C2 X2.drew (below_dr (Below.refl _ _))
  refine wp_region_held_drew (P := Tryz.prog) (S := fun X => Holds X P (P4 R0' R1 Q0 Q1) ∧ Holds X B1 (AC.mk 2 v s n).cs) (by kernel_rfl) s0 (fun hS0 => ?_)
  refine gsem 0 (some 67) (pt P) rfl (by kernel_rfl) (by kernel_rfl) (by kernel_rfl) (fun _ _ _ h => h) (by kernel_rfl) (by kernel_rfl) (fun _ _ => by kernel_rfl) s0 ?_
  simp only [Act.put, List.setIfInBounds_toArray, List.set_cons_succ, List.set_cons_zero]
  refine gsem 1 (some 68) (pt P) rfl (by kernel_rfl) (by kernel_rfl) (by kernel_rfl) (fun _ _ _ h => h) (by kernel_rfl) (by kernel_rfl) (fun _ _ => by kernel_rfl) s0 ?_
  simp only [Act.put, List.setIfInBounds_toArray, List.set_cons_succ, List.set_cons_zero]
  refine gsem 2 (some 69) (.pointer (some ⟨P, 2, none⟩)) rfl (by kernel_rfl) (by kernel_rfl) (by kernel_rfl) (fun _ _ _ h => h) (by kernel_rfl) (by kernel_rfl) (fun _ _ => by kernel_rfl) s0 ?_
  simp only [Act.put, List.setIfInBounds_toArray, List.set_cons_succ, List.set_cons_zero]
  refine gsem 3 (some 70) (.pointer (some ⟨P, 2, none⟩)) rfl (by kernel_rfl) (by kernel_rfl) (by kernel_rfl) (fun _ _ _ h => h) (by kernel_rfl) (by kernel_rfl) (fun X hX => ex_indexA 29 2 1 0 und29 len29 idx29 rfl rfl rfl (by decide)) s0 ?_
  simp only [Act.put, List.setIfInBounds_toArray, List.set_cons_succ, List.set_cons_zero]
  refine gsem 4 (some 71) (pt Q0.r) rfl (by kernel_rfl) (by kernel_rfl) (by kernel_rfl) (fun _ _ _ h => h) (by kernel_rfl) (by kernel_rfl) (fun X hX => ex_load1 28 Tryz.isAgg28 rfl rfl (hX.1) rfl) s0 ?_
  simp only [Act.put, List.setIfInBounds_toArray, List.set_cons_succ, List.set_cons_zero]
  refine gsem 5 (some 72) (.pointer (some ⟨B1, 6, none⟩)) rfl (by kernel_rfl) (by kernel_rfl) (by kernel_rfl) (fun _ _ _ h => h) (by kernel_rfl) (by kernel_rfl) (fun _ _ => by kernel_rfl) s0 ?_
  simp only [Act.put, List.setIfInBounds_toArray, List.set_cons_succ, List.set_cons_zero]
  refine gsem 6 (some 73) (.string s) rfl (by kernel_rfl) (by kernel_rfl) (by kernel_rfl) (fun _ _ _ h => h) (by kernel_rfl) (by kernel_rfl) (fun X hX => ex_load1 9 Tryz.isAgg9 rfl rfl (hX.2) rfl) s0 ?_
  simp only [Act.put, List.setIfInBounds_toArray, List.set_cons_succ, List.set_cons_zero]
  refine wpAnyH_ready (rs := [7]) (by kernel_rfl) (by simp) (gcallR 7 (some 74) rfl (by kernel_rfl) (by kernel_rfl) (by kernel_rfl) c1 ?_ AllReadyH.nil)
  rintro e X3 ⟨rfl, Q0', hp3, hl3, hm3⟩
  have hq3 := (unhide HB2).drew.mv2 hp3 hm3
  have s3 : Holds X3 P (P4 R0' R1 Q0 Q1) ∧ Holds X3 B1 (AC.mk 2 v s n).cs := ⟨by have := hq3.ps.hold; rw [hm3.2.1] at this; exact this, hq3.hb⟩
  refine ⟨_, rfl, s3, ?_⟩
  simp only [Act.put, List.setIfInBounds_toArray, List.set_cons_succ, List.set_cons_zero]
  refine gsem 8 (some 66) (.tuple #[.int .i64 N, .int .i64 E]) rfl (by kernel_rfl) (by kernel_rfl) (by kernel_rfl) (fun _ _ _ h => h) (by kernel_rfl) (by kernel_rfl) (fun _ _ => by kernel_rfl) s3 ?_
  simp only [Act.put, List.setIfInBounds_toArray, List.set_cons_succ, List.set_cons_zero]
  refine gsem 9 (some 75) (.int .i64 N) rfl (by kernel_rfl) (by kernel_rfl) (by kernel_rfl) (fun _ _ _ h => h) (by kernel_rfl) (by kernel_rfl) (fun _ _ => by kernel_rfl) s3 ?_
  simp only [Act.put, List.setIfInBounds_toArray, List.set_cons_succ, List.set_cons_zero]
  refine gsem 10 (some 76) (.int .i64 E) rfl (by kernel_rfl) (by kernel_rfl) (by kernel_rfl) (fun _ _ _ h => h) (by kernel_rfl) (by kernel_rfl) (fun _ _ => by kernel_rfl) s3 ?_
  simp only [Act.put, List.setIfInBounds_toArray, List.set_cons_succ, List.set_cons_zero]
  refine gsem 11 (some 11) (.int .i64 N) rfl (by kernel_rfl) (by kernel_rfl) (by kernel_rfl) (fun _ _ _ h => h) (by kernel_rfl) (by kernel_rfl) (fun _ _ => by kernel_rfl) s3 ?_
  simp only [Act.put, List.setIfInBounds_toArray, List.set_cons_succ, List.set_cons_zero]
  refine gsem 12 (some 12) (.int .i64 E) rfl (by kernel_rfl) (by kernel_rfl) (by kernel_rfl) (fun _ _ _ h => h) (by kernel_rfl) (by kernel_rfl) (fun _ _ => by kernel_rfl) s3 ?_
  simp only [Act.put, List.setIfInBounds_toArray, List.set_cons_succ, List.set_cons_zero]
  refine wpAnyH_done (by kernel_rfl) ?_ _
  try simp only [Act.put, List.setIfInBounds_toArray, List.set_cons_succ, List.set_cons_zero]
  have FIN : Hid (Left w0 X3 P) := hide ⟨R0', R1, Q0', Q1, hp3, hl3, (unhide HE).2⟩
  clear c1 s0 s3 hS0 hp3 hl3 hm3 hq3 HB2 C2
  go_wp2_with fail
  refine (num16 E (unhide HEE) _).mono ?_
  rintro e X9 ⟨rfl, h9⟩
  rw [h9]
  clear h9 X9
  go_wp2
  go_ret
  exact ⟨by simp, unhide FIN⟩
set_option maxRecDepth 100000 in
theorem play_ask {w0 : World} {P : Nat} {R0 R1 : RG} {Q0 Q1 : RF} (v : VV) (s : ByteArray) (n : Int) (w : World) (hP : PS w0 w P R0 R1 Q0 Q1) (e0 : Q0.l = R0.l) (e1 : Q1.l = R1.l) (hT : Tabs w0) : Calls Tryz.prog 6 #[pt P, .agg (AC.mk 3 v s n).cs.toArray] w fun e w' => e = .returned (.bool true) ∧ Left w0 w' P := by
  have HPS := hide hP
  have HE := hide (And.intro e0 e1)
  have HT := hide hT
  have LL := hide (Hq.nil w [])
  clear hP e0 e1 hT
  go_enter Tryz.func6, Tryz.ntmps6
  go_wp2_with (first | go_skip | ((with_reducible show wpList _ _ _ _ _ _); first | ((refine bx 37 ((AC.mk 3 v s n).cs) (by rfl) rfl rfl rfl (Nat.succ_pos _) (unhide LL) ?_); intro X1 B1 hE1 L1 hb1; have hB1 := hide (Nat.le_trans (unhide LL).fr.size (Nat.le_of_eq hE1.symm)); replace LL := hide L1; have HB := hide (PB.new (a := (AC.mk 3 v s n)) (unhide HPS) hb1 (unhide hB1) ((unhide LL).get 0 rfl)); clear L1 hb1 hE1; simp only [Act.put, List.setIfInBounds_toArray, List.set_cons_succ, List.set_cons_zero]) | ((refine rd (by rfl) (ex_load1 3 Tryz.isAgg3 rfl rfl ((unhide LL).get 0 rfl) rfl) ?_); simp only [Act.put, List.setIfInBounds_toArray, List.set_cons_succ, List.set_cons_zero])))
  have hb := unhide HB
  refine (asks8 n _ hb.ps (unhide HE).1).mono ?_
  rintro e X2 ⟨rfl, hb2⟩
  have FIN : Hid (Left w0 X2 P) := hide ⟨R0, R1, Q0, Q1, hb.ps.on hb2, unhide HE⟩
  clear hb hb2 HB LL
  go_wp2
  go_ret
  exact ⟨rfl, unhide FIN⟩
set_option maxRecDepth 100000 in
theorem play_tell {w0 : World} {P : Nat} {R0 R1 : RG} {Q0 Q1 : RF} (v : VV) (s : ByteArray) (n : Int) (w : World) (hP : PS w0 w P R0 R1 Q0 Q1) (e0 : Q0.l = R0.l) (e1 : Q1.l = R1.l) (hT : Tabs w0) : Calls Tryz.prog 6 #[pt P, .agg (AC.mk 4 v s n).cs.toArray] w fun e w' => e = .returned (.bool true) ∧ Left w0 w' P := by
  have HPS := hide hP
  have HE := hide (And.intro e0 e1)
  have HT := hide hT
  have LL := hide (Hq.nil w [])
  clear hP e0 e1 hT
  go_enter Tryz.func6, Tryz.ntmps6
  go_wp2_with (first | go_skip | ((with_reducible show wpList _ _ _ _ _ _); first | ((refine bx 37 ((AC.mk 4 v s n).cs) (by rfl) rfl rfl rfl (Nat.succ_pos _) (unhide LL) ?_); intro X1 B1 hE1 L1 hb1; have hB1 := hide (Nat.le_trans (unhide LL).fr.size (Nat.le_of_eq hE1.symm)); replace LL := hide L1; have HB := hide (PB.new (a := (AC.mk 4 v s n)) (unhide HPS) hb1 (unhide hB1) ((unhide LL).get 0 rfl)); clear L1 hb1 hE1; simp only [Act.put, List.setIfInBounds_toArray, List.set_cons_succ, List.set_cons_zero]) | ((refine rd (by rfl) (ex_load1 3 Tryz.isAgg3 rfl rfl ((unhide LL).get 0 rfl) rfl) ?_); simp only [Act.put, List.setIfInBounds_toArray, List.set_cons_succ, List.set_cons_zero])))
  obtain ⟨na, sza, Fa, hr⟩ := ((unhide HB)).ps.rp0 (unhide HE).1
  refine (tells7 P 0 _ _ _ _ ((unhide HB)).ps.at0 hr ((unhide HT).fr ((unhide HB)).ps.fr (by simp))).mono ?_
  rintro e X2 ⟨rfl, hb2⟩
  replace HB := hide ((unhide HB).on hb2)
  clear hb2 hr LL
  go_wp2_with fail
  obtain ⟨nb, szb, Fb, hr⟩ := ((unhide HB)).ps.rp1 (unhide HE).2
  refine (tells7 P 1 _ _ _ _ ((unhide HB)).ps.at1 hr ((unhide HT).fr ((unhide HB)).ps.fr (by simp))).mono ?_
  rintro e X3 ⟨rfl, hb2⟩
  have FIN : Hid (Left w0 X3 P) := hide ⟨R0, R1, Q0, Q1, (unhide HB).ps.on hb2, unhide HE⟩
  clear hb2 hr HB
  go_wp2
  go_ret
  exact ⟨rfl, unhide FIN⟩
end Go.Proofs.YtkpfikeggleenaaGreatDoor

/-! Xo -/
namespace Go.Proofs.YtkpfikeggleenaaGreatDoor
open Go Go.Proofs Go.Maps Go.RowKit
set_option linter.unusedSimpArgs false
set_option linter.unusedVariables false
set_option maxHeartbeats 1000000
theorem siz26 : (Tryz.prog.info? 26).map (·.size) = some 1 := by kernel_rfl
theorem siz28 : (Tryz.prog.info? 28).map (·.size) = some 1 := by kernel_rfl
section
variable {w0 W X : World} {P : Nat} {R0 R1 R1' : RG} {Q0 Q1 Q1' : RF}
theorem PS.swapped0 (k : PS w0 W P R0 R1 Q0 Q1) : PS w0 ((W.setCells P 0 [pt R1.r]).setCells P 1 [pt R0.r]) P R1 R0 Q0 Q1 :=
  k.swap0 ((Fr.setCells W P 0 [pt R1.r]).trans (Fr.setCells _ P 1 [pt R0.r]) (fun b hb => .inl hb)) ((k.hold.put 0 [pt R1.r] (by simp)).put 1 [pt R0.r] (by simp [cput]))
theorem PS.swapped2 (k : PS w0 W P R0 R1 Q0 Q1) : PS w0 ((W.setCells P 2 [pt Q1.r]).setCells P 3 [pt Q0.r]) P R0 R1 Q1 Q0 :=
  k.swap2 ((Fr.setCells W P 2 [pt Q1.r]).trans (Fr.setCells _ P 3 [pt Q0.r]) (fun b hb => .inl hb)) ((k.hold.put 2 [pt Q1.r] (by simp)).put 3 [pt Q0.r] (by simp [cput]))
theorem PS.cloned1 (h : PS w0 W P R0 R1 Q0 Q1) (hX : Below W.heap.size W X) (ho : OW X R1') (hb : ∀ b ∈ R1'.blocks, W.heap.size ≤ b) : PS w0 (X.setCells P 1 [pt R1'.r]) P R0 R1' Q0 Q1 :=
  h.put1 hX ho hb (Fr.setCells X P 1 [pt R1'.r]) ((h.on hX).hold.put 1 [pt R1'.r] (by simp))
theorem PS.cloned3 (h : PS w0 W P R0 R1 Q0 Q1) (hX : Below W.heap.size W X) (ho : Q1'.Is X) (hb : ∀ b ∈ Q1'.blocks, W.heap.size ≤ b) : PS w0 (X.setCells P 3 [pt Q1'.r]) P R0 R1 Q0 Q1' :=
  h.put3 hX ho hb (Fr.setCells X P 3 [pt Q1'.r]) ((h.on hX).hold.put 3 [pt Q1'.r] (by simp))
end
set_option maxHeartbeats 2000000 in
set_option maxRecDepth 100000 in
theorem play_clone {w0 : World} {P : Nat} {R0 R1 : RG} {Q0 Q1 : RF} (v : VV) (s : ByteArray) (n : Int) (w : World) (hP : PS w0 w P R0 R1 Q0 Q1) (e0 : Q0.l = R0.l) (e1 : Q1.l = R1.l) (hT : Tabs w0) : Calls Tryz.prog 6 #[pt P, .agg (AC.mk 5 v s n).cs.toArray] w fun e w' => e = .returned (.bool true) ∧ Left w0 w' P := by
  have HPS := hide hP
  have HE := hide (And.intro e0 e1)
  have HT := hide hT
  have LL := hide (Hq.nil w [])
  clear hP e0 e1 hT
  go_enter Tryz.func6, Tryz.ntmps6
  go_wp2_with (first | go_skip | ((with_reducible show wpList _ _ _ _ _ _); first | ((refine bx 37 ((AC.mk 5 v s n).cs) (by rfl) rfl rfl rfl (Nat.succ_pos _) (unhide LL) ?_); intro X1 B1 hE1 L1 hb1; have hB1 := hide (Nat.le_trans (unhide LL).fr.size (Nat.le_of_eq hE1.symm)); replace LL := hide L1; have HB := hide (PB.new (a := (AC.mk 5 v s n)) (unhide HPS) hb1 (unhide hB1) ((unhide LL).get 0 rfl)); clear L1 hb1 hE1; simp only [Act.put, List.setIfInBounds_toArray, List.set_cons_succ, List.set_cons_zero]) | ((refine rd (by rfl) (ex_load1 3 Tryz.isAgg3 rfl rfl ((unhide LL).get 0 rfl) rfl) ?_); simp only [Act.put, List.setIfInBounds_toArray, List.set_cons_succ, List.set_cons_zero])))
  have hps := (unhide HB).ps.drew
  have h5 := ((unhide HT).fr hps.fr (by simp)).sz
  have s0 : ∃ x, Holds X1.drew P [pt R0.r, x, pt Q0.r, pt Q1.r] := ⟨_, hps.hold⟩
  have c1 := clone16 R0 X1.drew hps.o0 h5
  refine wp_region_held_drew (P := Tryz.prog) (S := fun X => ∃ x, Holds X P [pt R0.r, x, pt Q0.r, pt Q1.r]) (by kernel_rfl) s0 (fun hS0 => ?_)
  refine gsem 0 (some 102) (pt P) rfl (by kernel_rfl) (by kernel_rfl) (by kernel_rfl) (fun _ _ _ h => h) (by kernel_rfl) (by kernel_rfl) (fun _ _ => by kernel_rfl) s0 ?_
  simp only [Act.put, List.setIfInBounds_toArray, List.set_cons_succ, List.set_cons_zero]
  refine gsem 1 (some 103) (pt P) rfl (by kernel_rfl) (by kernel_rfl) (by kernel_rfl) (fun _ _ _ h => h) (by kernel_rfl) (by kernel_rfl) (fun _ _ => by kernel_rfl) s0 ?_
  simp only [Act.put, List.setIfInBounds_toArray, List.set_cons_succ, List.set_cons_zero]
  refine gsem 2 (some 104) (pt P) rfl (by kernel_rfl) (by kernel_rfl) (by kernel_rfl) (fun _ _ _ h => h) (by kernel_rfl) (by kernel_rfl) (fun _ _ => by kernel_rfl) s0 ?_
  simp only [Act.put, List.setIfInBounds_toArray, List.set_cons_succ, List.set_cons_zero]
  refine gsem 3 (some 105) (.pointer (some ⟨P, 0, none⟩)) rfl (by kernel_rfl) (by kernel_rfl) (by kernel_rfl) (fun _ _ _ h => h) (by kernel_rfl) (by kernel_rfl) (fun _ _ => by kernel_rfl) s0 ?_
  simp only [Act.put, List.setIfInBounds_toArray, List.set_cons_succ, List.set_cons_zero]
  refine gsem 4 (some 106) (.pointer (some ⟨P, 0, none⟩)) rfl (by kernel_rfl) (by kernel_rfl) (by kernel_rfl) (fun _ _ _ h => h) (by kernel_rfl) (by kernel_rfl) (fun X hX => ex_indexA 27 2 1 0 und27 len27 idx27 rfl rfl rfl (by decide)) s0 ?_
  simp only [Act.put, List.setIfInBounds_toArray, List.set_cons_succ, List.set_cons_zero]
  refine gsem 5 (some 107) (pt R0.r) rfl (by kernel_rfl) (by kernel_rfl) (by kernel_rfl) (fun _ _ _ h => h) (by kernel_rfl) (by kernel_rfl) (fun X hX => hX.elim fun _ hx => ex_load1 26 Tryz.isAgg26 rfl rfl (hx) rfl) s0 ?_
  simp only [Act.put, List.setIfInBounds_toArray, List.set_cons_succ, List.set_cons_zero]
  refine gsem 7 (some 109) (pt P) rfl (by kernel_rfl) (by kernel_rfl) (by kernel_rfl) (fun _ _ _ h => h) (by kernel_rfl) (by kernel_rfl) (fun _ _ => by kernel_rfl) s0 ?_
  simp only [Act.put, List.setIfInBounds_toArray, List.set_cons_succ, List.set_cons_zero]
  refine gsem 8 (some 110) (.pointer (some ⟨P, 0, none⟩)) rfl (by kernel_rfl) (by kernel_rfl) (by kernel_rfl) (fun _ _ _ h => h) (by kernel_rfl) (by kernel_rfl) (fun _ _ => by kernel_rfl) s0 ?_
  simp only [Act.put, List.setIfInBounds_toArray, List.set_cons_succ, List.set_cons_zero]
  refine wpAnyH_ready (rs := [6]) (by kernel_rfl) (by simp) (gcallR 6 (some 108) rfl (by kernel_rfl) (by kernel_rfl) (by kernel_rfl) c1 ?_ AllReadyH.nil)
  rintro e X2 ⟨R1', rfl, ho2, hl2, hg2, hb2⟩
  have s2 : ∃ x, Holds X2 P [pt R0.r, x, pt Q0.r, pt Q1.r] := ⟨_, (hps.on hb2).hold⟩
  have hp3 := hps.cloned1 hb2 ho2 hg2
  have s3 : ∃ x, Holds (X2.setCells P 1 [pt R1'.r]) P [pt R0.r, x, pt Q0.r, pt Q1.r] := ⟨pt R1'.r, hp3.hold⟩
  refine ⟨_, rfl, s2, ?_⟩
  simp only [Act.put, List.setIfInBounds_toArray, List.set_cons_succ, List.set_cons_zero]
  refine gsem 9 (some 111) (.pointer (some ⟨P, 1, none⟩)) rfl (by kernel_rfl) (by kernel_rfl) (by kernel_rfl) (fun _ _ _ h => h) (by kernel_rfl) (by kernel_rfl) (fun X hX => ex_indexA 27 2 1 1 und27 len27 idx27 rfl rfl rfl (by decide)) s2 ?_
  simp only [Act.put, List.setIfInBounds_toArray, List.set_cons_succ, List.set_cons_zero]
  refine wpAnyH_ready (rs := [10]) (by kernel_rfl) (by simp) (gskp 10 none rfl (by kernel_rfl) (by kernel_rfl) (ex_store (t := 26) (b := P) (p := 1) (vs := [pt R1'.r]) rfl rfl rfl rfl (by simp [Value.oneCell']) siz26 ((hps.on hb2).hold) (by simp [cput])) s3 ?_ AllReadyH.nil)
  simp only [Act.put, List.setIfInBounds_toArray, List.set_cons_succ, List.set_cons_zero]
  refine wpAnyH_done (by kernel_rfl) ?_ _
  try simp only [Act.put, List.setIfInBounds_toArray, List.set_cons_succ, List.set_cons_zero]
  generalize X2.setCells P 1 [pt R1'.r] = X3 at *
  have HP3 := hide (And.intro hp3 hl2)
  clear hps h5 s0 c1 ho2 hg2 hb2 s2 s3 hp3 hS0 HB LL hl2
  go_wp2
  have hps := (unhide HP3).1.drew
  have h5 := ((unhide HT).fr hps.fr (by simp)).sz
  have s0 : ∃ x, Holds X3.drew P [pt R0.r, pt R1'.r, pt Q0.r, x] := ⟨_, hps.hold⟩
  have c1 := refClone17 Q0 X3.drew hps.f0 h5 (by rw [(unhide HE).1]; have := hps.o0.len; omega)
  refine wp_region_held_drew (P := Tryz.prog) (S := fun X => ∃ x, Holds X P [pt R0.r, pt R1'.r, pt Q0.r, x]) (by kernel_rfl) s0 (fun hS0 => ?_)
  refine gsem 0 (some 112) (pt P) rfl (by kernel_rfl) (by kernel_rfl) (by kernel_rfl) (fun _ _ _ h => h) (by kernel_rfl) (by kernel_rfl) (fun _ _ => by kernel_rfl) s0 ?_
  simp only [Act.put, List.setIfInBounds_toArray, List.set_cons_succ, List.set_cons_zero]
  refine gsem 1 (some 113) (pt P) rfl (by kernel_rfl) (by kernel_rfl) (by kernel_rfl) (fun _ _ _ h => h) (by kernel_rfl) (by kernel_rfl) (fun _ _ => by kernel_rfl) s0 ?_
  simp only [Act.put, List.setIfInBounds_toArray, List.set_cons_succ, List.set_cons_zero]
  refine gsem 2 (some 114) (pt P) rfl (by kernel_rfl) (by kernel_rfl) (by kernel_rfl) (fun _ _ _ h => h) (by kernel_rfl) (by kernel_rfl) (fun _ _ => by kernel_rfl) s0 ?_
  simp only [Act.put, List.setIfInBounds_toArray, List.set_cons_succ, List.set_cons_zero]
  refine gsem 3 (some 115) (.pointer (some ⟨P, 2, none⟩)) rfl (by kernel_rfl) (by kernel_rfl) (by kernel_rfl) (fun _ _ _ h => h) (by kernel_rfl) (by kernel_rfl) (fun _ _ => by kernel_rfl) s0 ?_
  simp only [Act.put, List.setIfInBounds_toArray, List.set_cons_succ, List.set_cons_zero]
  refine gsem 4 (some 116) (.pointer (some ⟨P, 2, none⟩)) rfl (by kernel_rfl) (by kernel_rfl) (by kernel_rfl) (fun _ _ _ h => h) (by kernel_rfl) (by kernel_rfl) (fun X hX => ex_indexA 29 2 1 0 und29 len29 idx29 rfl rfl rfl (by decide)) s0 ?_
  simp only [Act.put, List.setIfInBounds_toArray, List.set_cons_succ, List.set_cons_zero]
  refine gsem 5 (some 117) (pt Q0.r) rfl (by kernel_rfl) (by kernel_rfl) (by kernel_rfl) (fun _ _ _ h => h) (by kernel_rfl) (by kernel_rfl) (fun X hX => hX.elim fun _ hx => ex_load1 28 Tryz.isAgg28 rfl rfl (hx) rfl) s0 ?_
  simp only [Act.put, List.setIfInBounds_toArray, List.set_cons_succ, List.set_cons_zero]
  refine gsem 7 (some 119) (pt P) rfl (by kernel_rfl) (by kernel_rfl) (by kernel_rfl) (fun _ _ _ h => h) (by kernel_rfl) (by kernel_rfl) (fun _ _ => by kernel_rfl) s0 ?_
  simp only [Act.put, List.setIfInBounds_toArray, List.set_cons_succ, List.set_cons_zero]
  refine gsem 8 (some 120) (.pointer (some ⟨P, 2, none⟩)) rfl (by kernel_rfl) (by kernel_rfl) (by kernel_rfl) (fun _ _ _ h => h) (by kernel_rfl) (by kernel_rfl) (fun _ _ => by kernel_rfl) s0 ?_
  simp only [Act.put, List.setIfInBounds_toArray, List.set_cons_succ, List.set_cons_zero]
  refine wpAnyH_ready (rs := [6]) (by kernel_rfl) (by simp) (gcallR 6 (some 118) rfl (by kernel_rfl) (by kernel_rfl) (by kernel_rfl) c1 ?_ AllReadyH.nil)
  rintro e X4 ⟨Q1', rfl, ho4, hl4, hg4, hb4⟩
  have s2 : ∃ x, Holds X4 P [pt R0.r, pt R1'.r, pt Q0.r, x] := ⟨_, (hps.on hb4).hold⟩
  have hp5 := hps.cloned3 hb4 ho4 hg4
  have s3 : ∃ x, Holds (X4.setCells P 3 [pt Q1'.r]) P [pt R0.r, pt R1'.r, pt Q0.r, x] := ⟨pt Q1'.r, hp5.hold⟩
  refine ⟨_, rfl, s2, ?_⟩
  simp only [Act.put, List.setIfInBounds_toArray, List.set_cons_succ, List.set_cons_zero]
  refine gsem 9 (some 121) (.pointer (some ⟨P, 3, none⟩)) rfl (by kernel_rfl) (by kernel_rfl) (by kernel_rfl) (fun _ _ _ h => h) (by kernel_rfl) (by kernel_rfl) (fun X hX => ex_indexA 29 2 1 1 und29 len29 idx29 rfl rfl rfl (by decide)) s2 ?_
  simp only [Act.put, List.setIfInBounds_toArray, List.set_cons_succ, List.set_cons_zero]
  refine wpAnyH_ready (rs := [10]) (by kernel_rfl) (by simp) (gskp 10 none rfl (by kernel_rfl) (by kernel_rfl) (ex_store (t := 28) (b := P) (p := 3) (vs := [pt Q1'.r]) rfl rfl rfl rfl (by simp [Value.oneCell']) siz28 ((hps.on hb4).hold) (by simp [cput])) s3 ?_ AllReadyH.nil)
  simp only [Act.put, List.setIfInBounds_toArray, List.set_cons_succ, List.set_cons_zero]
  refine wpAnyH_done (by kernel_rfl) ?_ _
  try simp only [Act.put, List.setIfInBounds_toArray, List.set_cons_succ, List.set_cons_zero]
  generalize X4.setCells P 3 [pt Q1'.r] = X5 at *
  have HP5 : Hid (PS w0 X5 P R0 R1' Q0 Q1' ∧ Q1'.l = R1'.l) := hide ⟨hp5, by rw [hl4, (unhide HE).1, (unhide HP3).2]⟩
  clear hps h5 s0 c1 ho4 hg4 hb4 s2 s3 hp5 hS0 HP3 hl4
  go_wp2_with (first | go_skip | ((with_reducible show wpList _ _ _ _ _ _); first | ((refine rd (by rfl) (ex_indexA 27 2 1 1 und27 len27 idx27 rfl rfl rfl (by decide)) ?_); simp only [Act.put, List.setIfInBounds_toArray, List.set_cons_succ, List.set_cons_zero]) | ((refine rd (by rfl) (ex_load1 26 Tryz.isAgg26 rfl rfl ((unhide HP5).1.hold) rfl) ?_); simp only [Act.put, List.setIfInBounds_toArray, List.set_cons_succ, List.set_cons_zero])))
  obtain ⟨nb, szb, Fb, hr⟩ := (unhide HP5).1.rp1 (unhide HP5).2
  refine (tells7 P 1 _ _ _ _ (unhide HP5).1.at1 hr ((unhide HT).fr (unhide HP5).1.fr (by simp))).mono ?_
  rintro e X6 ⟨rfl, hb2⟩
  have FIN : Hid (Left w0 X6 P) := hide ⟨R0, R1', Q0, Q1', (unhide HP5).1.on hb2, (unhide HE).1, (unhide HP5).2⟩
  clear hb2 hr HP5
  go_wp2
  go_ret
  exact ⟨rfl, unhide FIN⟩
set_option maxHeartbeats 4000000 in
set_option maxRecDepth 100000 in
theorem play_swap {w0 : World} {P : Nat} {R0 R1 : RG} {Q0 Q1 : RF} (v : VV) (s : ByteArray) (n : Int) (w : World) (hP : PS w0 w P R0 R1 Q0 Q1) (e0 : Q0.l = R0.l) (e1 : Q1.l = R1.l) (hT : Tabs w0) : Calls Tryz.prog 6 #[pt P, .agg (AC.mk 6 v s n).cs.toArray] w fun e w' => e = .returned (.bool true) ∧ Left w0 w' P := by
  have HPS := hide hP
  have HE := hide (And.intro e0 e1)
  have HT := hide hT
  have LL := hide (Hq.nil w [])
  clear hP e0 e1 hT
  go_enter Tryz.func6, Tryz.ntmps6
  go_wp2_with (first | go_skip | ((with_reducible show wpList _ _ _ _ _ _); first | ((refine bx 37 ((AC.mk 6 v s n).cs) (by rfl) rfl rfl rfl (Nat.succ_pos _) (unhide LL) ?_); intro X1 B1 hE1 L1 hb1; have hB1 := hide (Nat.le_trans (unhide LL).fr.size (Nat.le_of_eq hE1.symm)); replace LL := hide L1; have HB := hide (PB.new (a := (AC.mk 6 v s n)) (unhide HPS) hb1 (unhide hB1) ((unhide LL).get 0 rfl)); clear L1 hb1 hE1; simp only [Act.put, List.setIfInBounds_toArray, List.set_cons_succ, List.set_cons_zero]) | ((refine rd (by rfl) (ex_load1 3 Tryz.isAgg3 rfl rfl ((unhide LL).get 0 rfl) rfl) ?_); simp only [Act.put, List.setIfInBounds_toArray, List.set_cons_succ, List.set_cons_zero])))
  refine wp_region_held_drew (P := Tryz.prog) (S := fun _ => True) (by kernel_rfl) trivial (fun hS0 => ?_)
  refine gsem 0 (some 134) (pt P) rfl (by kernel_rfl) (by kernel_rfl) (by kernel_rfl) (fun _ _ _ h => h) (by kernel_rfl) (by kernel_rfl) (fun _ _ => by kernel_rfl) trivial ?_
  simp only [Act.put, List.setIfInBounds_toArray, List.set_cons_succ, List.set_cons_zero]
  refine gsem 1 (some 135) (pt P) rfl (by kernel_rfl) (by kernel_rfl) (by kernel_rfl) (fun _ _ _ h => h) (by kernel_rfl) (by kernel_rfl) (fun _ _ => by kernel_rfl) trivial ?_
  simp only [Act.put, List.setIfInBounds_toArray, List.set_cons_succ, List.set_cons_zero]
  refine gsem 2 (some 136) (pt P) rfl (by kernel_rfl) (by kernel_rfl) (by kernel_rfl) (fun _ _ _ h => h) (by kernel_rfl) (by kernel_rfl) (fun _ _ => by kernel_rfl) trivial ?_
  simp only [Act.put, List.setIfInBounds_toArray, List.set_cons_succ, List.set_cons_zero]
  refine gsem 3 (some 137) (pt P) rfl (by kernel_rfl) (by kernel_rfl) (by kernel_rfl) (fun _ _ _ h => h) (by kernel_rfl) (by kernel_rfl) (fun _ _ => by kernel_rfl) trivial ?_
  simp only [Act.put, List.setIfInBounds_toArray, List.set_cons_succ, List.set_cons_zero]
  refine gsem 4 (some 138) (.pointer (some ⟨P, 0, none⟩)) rfl (by kernel_rfl) (by kernel_rfl) (by kernel_rfl) (fun _ _ _ h => h) (by kernel_rfl) (by kernel_rfl) (fun _ _ => by kernel_rfl) trivial ?_
  simp only [Act.put, List.setIfInBounds_toArray, List.set_cons_succ, List.set_cons_zero]
  refine gsem 5 (some 139) (.pointer (some ⟨P, 1, none⟩)) rfl (by kernel_rfl) (by kernel_rfl) (by kernel_rfl) (fun _ _ _ h => h) (by kernel_rfl) (by kernel_rfl) (fun X hX => ex_indexA 27 2 1 1 und27 len27 idx27 rfl rfl rfl (by decide)) trivial ?_
  simp only [Act.put, List.setIfInBounds_toArray, List.set_cons_succ, List.set_cons_zero]
  refine gsem 7 (some 141) (pt P) rfl (by kernel_rfl) (by kernel_rfl) (by kernel_rfl) (fun _ _ _ h => h) (by kernel_rfl) (by kernel_rfl) (fun _ _ => by kernel_rfl) trivial ?_
  simp only [Act.put, List.setIfInBounds_toArray, List.set_cons_succ, List.set_cons_zero]
  refine gsem 8 (some 142) (pt P) rfl (by kernel_rfl) (by kernel_rfl) (by kernel_rfl) (fun _ _ _ h => h) (by kernel_rfl) (by kernel_rfl) (fun _ _ => by kernel_rfl) trivial ?_
  simp only [Act.put, List.setIfInBounds_toArray, List.set_cons_succ, List.set_cons_zero]
  refine gsem 9 (some 143) (.pointer (some ⟨P, 0, none⟩)) rfl (by kernel_rfl) (by kernel_rfl) (by kernel_rfl) (fun _ _ _ h => h) (by kernel_rfl) (by kernel_rfl) (fun _ _ => by kernel_rfl) trivial ?_
  simp only [Act.put, List.setIfInBounds_toArray, List.set_cons_succ, List.set_cons_zero]
  refine gsem 10 (some 144) (.pointer (some ⟨P, 0, none⟩)) rfl (by kernel_rfl) (by kernel_rfl) (by kernel_rfl) (fun _ _ _ h => h) (by kernel_rfl) (by kernel_rfl) (fun X hX => ex_indexA 27 2 1 0 und27 len27 idx27 rfl rfl rfl (by decide)) trivial ?_
  simp only [Act.put, List.setIfInBounds_toArray, List.set_cons_succ, List.set_cons_zero]
  refine gsem 12 (some 146) (pt P) rfl (by kernel_rfl) (by kernel_rfl) (by kernel_rfl) (fun _ _ _ h => h) (by kernel_rfl) (by kernel_rfl) (fun _ _ => by kernel_rfl) trivial ?_
  simp only [Act.put, List.setIfInBounds_toArray, List.set_cons_succ, List.set_cons_zero]
  refine gsem 13 (some 147) (.pointer (some ⟨P, 0, none⟩)) rfl (by kernel_rfl) (by kernel_rfl) (by kernel_rfl) (fun _ _ _ h => h) (by kernel_rfl) (by kernel_rfl) (fun _ _ => by kernel_rfl) trivial ?_
  simp only [Act.put, List.setIfInBounds_toArray, List.set_cons_succ, List.set_cons_zero]
  refine gsem 16 (some 149) (pt P) rfl (by kernel_rfl) (by kernel_rfl) (by kernel_rfl) (fun _ _ _ h => h) (by kernel_rfl) (by kernel_rfl) (fun _ _ => by kernel_rfl) trivial ?_
  simp only [Act.put, List.setIfInBounds_toArray, List.set_cons_succ, List.set_cons_zero]
  refine gsem 17 (some 150) (.pointer (some ⟨P, 0, none⟩)) rfl (by kernel_rfl) (by kernel_rfl) (by kernel_rfl) (fun _ _ _ h => h) (by kernel_rfl) (by kernel_rfl) (fun _ _ => by kernel_rfl) trivial ?_
  simp only [Act.put, List.setIfInBounds_toArray, List.set_cons_succ, List.set_cons_zero]
  refine wpAnyH_ready (rs := [6, 11]) (by kernel_rfl) (by simp) (gval 6 (some 140) (V := pt R1.r) rfl (by kernel_rfl) (by kernel_rfl) (ex_load1 26 Tryz.isAgg26 rfl rfl ((unhide HB).ps.drew.hold) rfl) trivial ?_ (gval 11 (some 145) (V := pt R0.r) rfl (by kernel_rfl) (by kernel_rfl) (ex_load1 26 Tryz.isAgg26 rfl rfl ((unhide HB).ps.drew.hold) rfl) trivial ?_ AllReadyH.nil))
  · simp only [Act.put, List.setIfInBounds_toArray, List.set_cons_succ, List.set_cons_zero]
    refine wpAnyH_ready (rs := [11]) (by kernel_rfl) (by simp) (gval 11 (some 145) (V := pt R0.r) rfl (by kernel_rfl) (by kernel_rfl) (ex_load1 26 Tryz.isAgg26 rfl rfl ((unhide HB).ps.drew.hold) rfl) trivial ?_ AllReadyH.nil)
    simp only [Act.put, List.setIfInBounds_toArray, List.set_cons_succ, List.set_cons_zero]
    refine gsem 14 (some 148) (.pointer (some ⟨P, 0, none⟩)) rfl (by kernel_rfl) (by kernel_rfl) (by kernel_rfl) (fun _ _ _ h => h) (by kernel_rfl) (by kernel_rfl) (fun X hX => ex_indexA 27 2 1 0 und27 len27 idx27 rfl rfl rfl (by decide)) trivial ?_
    simp only [Act.put, List.setIfInBounds_toArray, List.set_cons_succ, List.set_cons_zero]
    refine wpAnyH_ready (rs := [15]) (by kernel_rfl) (by simp) (gskp 15 none rfl (by kernel_rfl) (by kernel_rfl) (ex_store (t := 26) (b := P) (p := 0) (vs := [pt R1.r]) rfl rfl rfl rfl (by simp [Value.oneCell']) siz26 ((unhide HB).ps.drew.hold) (by simp [cput])) trivial ?_ AllReadyH.nil)
    simp only [Act.put, List.setIfInBounds_toArray, List.set_cons_succ, List.set_cons_zero]
    refine gsem 18 (some 151) (.pointer (some ⟨P, 1, none⟩)) rfl (by kernel_rfl) (by kernel_rfl) (by kernel_rfl) (fun _ _ _ h => h) (by kernel_rfl) (by kernel_rfl) (fun X hX => ex_indexA 27 2 1 1 und27 len27 idx27 rfl rfl rfl (by decide)) trivial ?_
    simp only [Act.put, List.setIfInBounds_toArray, List.set_cons_succ, List.set_cons_zero]
    refine wpAnyH_ready (rs := [19]) (by kernel_rfl) (by simp) (gskp 19 none rfl (by kernel_rfl) (by kernel_rfl) (ex_store (t := 26) (b := P) (p := 1) (vs := [pt R0.r]) rfl rfl rfl rfl (by simp [Value.oneCell']) siz26 (((unhide HB).ps.drew.hold).put 0 [pt R1.r] (by simp)) (by simp [cput])) trivial ?_ AllReadyH.nil)
    simp only [Act.put, List.setIfInBounds_toArray, List.set_cons_succ, List.set_cons_zero]
    refine wpAnyH_done (by kernel_rfl) ?_ _
    try simp only [Act.put, List.setIfInBounds_toArray, List.set_cons_succ, List.set_cons_zero]
    have HP3 : Hid (PS w0 ((X1.drew.setCells P 0 [pt R1.r]).setCells P 1 [pt R0.r]) P R1 R0 Q0 Q1) := hide (unhide HB).ps.drew.swapped0
    generalize (X1.drew.setCells P 0 [pt R1.r]).setCells P 1 [pt R0.r] = X3 at *
    clear hS0 HB LL
    go_wp2
    refine wp_region_held_drew (P := Tryz.prog) (S := fun _ => True) (by kernel_rfl) trivial (fun hS0 => ?_)
    refine gsem 0 (some 152) (pt P) rfl (by kernel_rfl) (by kernel_rfl) (by kernel_rfl) (fun _ _ _ h => h) (by kernel_rfl) (by kernel_rfl) (fun _ _ => by kernel_rfl) trivial ?_
    simp only [Act.put, List.setIfInBounds_toArray, List.set_cons_succ, List.set_cons_zero]
    refine gsem 1 (some 153) (pt P) rfl (by kernel_rfl) (by kernel_rfl) (by kernel_rfl) (fun _ _ _ h => h) (by kernel_rfl) (by kernel_rfl) (fun _ _ => by kernel_rfl) trivial ?_
    simp only [Act.put, List.setIfInBounds_toArray, List.set_cons_succ, List.set_cons_zero]
    refine gsem 2 (some 154) (pt P) rfl (by kernel_rfl) (by kernel_rfl) (by kernel_rfl) (fun _ _ _ h => h) (by kernel_rfl) (by kernel_rfl) (fun _ _ => by kernel_rfl) trivial ?_
    simp only [Act.put, List.setIfInBounds_toArray, List.set_cons_succ, List.set_cons_zero]
    refine gsem 3 (some 155) (pt P) rfl (by kernel_rfl) (by kernel_rfl) (by kernel_rfl) (fun _ _ _ h => h) (by kernel_rfl) (by kernel_rfl) (fun _ _ => by kernel_rfl) trivial ?_
    simp only [Act.put, List.setIfInBounds_toArray, List.set_cons_succ, List.set_cons_zero]
    refine gsem 4 (some 156) (.pointer (some ⟨P, 2, none⟩)) rfl (by kernel_rfl) (by kernel_rfl) (by kernel_rfl) (fun _ _ _ h => h) (by kernel_rfl) (by kernel_rfl) (fun _ _ => by kernel_rfl) trivial ?_
    simp only [Act.put, List.setIfInBounds_toArray, List.set_cons_succ, List.set_cons_zero]
    refine gsem 5 (some 157) (.pointer (some ⟨P, 3, none⟩)) rfl (by kernel_rfl) (by kernel_rfl) (by kernel_rfl) (fun _ _ _ h => h) (by kernel_rfl) (by kernel_rfl) (fun X hX => ex_indexA 29 2 1 1 und29 len29 idx29 rfl rfl rfl (by decide)) trivial ?_
    simp only [Act.put, List.setIfInBounds_toArray, List.set_cons_succ, List.set_cons_zero]
    refine gsem 7 (some 159) (pt P) rfl (by kernel_rfl) (by kernel_rfl) (by kernel_rfl) (fun _ _ _ h => h) (by kernel_rfl) (by kernel_rfl) (fun _ _ => by kernel_rfl) trivial ?_
    simp only [Act.put, List.setIfInBounds_toArray, List.set_cons_succ, List.set_cons_zero]
    refine gsem 8 (some 160) (pt P) rfl (by kernel_rfl) (by kernel_rfl) (by kernel_rfl) (fun _ _ _ h => h) (by kernel_rfl) (by kernel_rfl) (fun _ _ => by kernel_rfl) trivial ?_
    simp only [Act.put, List.setIfInBounds_toArray, List.set_cons_succ, List.set_cons_zero]
    refine gsem 9 (some 161) (.pointer (some ⟨P, 2, none⟩)) rfl (by kernel_rfl) (by kernel_rfl) (by kernel_rfl) (fun _ _ _ h => h) (by kernel_rfl) (by kernel_rfl) (fun _ _ => by kernel_rfl) trivial ?_
    simp only [Act.put, List.setIfInBounds_toArray, List.set_cons_succ, List.set_cons_zero]
    refine gsem 10 (some 162) (.pointer (some ⟨P, 2, none⟩)) rfl (by kernel_rfl) (by kernel_rfl) (by kernel_rfl) (fun _ _ _ h => h) (by kernel_rfl) (by kernel_rfl) (fun X hX => ex_indexA 29 2 1 0 und29 len29 idx29 rfl rfl rfl (by decide)) trivial ?_
    simp only [Act.put, List.setIfInBounds_toArray, List.set_cons_succ, List.set_cons_zero]
    refine gsem 12 (some 164) (pt P) rfl (by kernel_rfl) (by kernel_rfl) (by kernel_rfl) (fun _ _ _ h => h) (by kernel_rfl) (by kernel_rfl) (fun _ _ => by kernel_rfl) trivial ?_
    simp only [Act.put, List.setIfInBounds_toArray, List.set_cons_succ, List.set_cons_zero]
    refine gsem 13 (some 165) (.pointer (some ⟨P, 2, none⟩)) rfl (by kernel_rfl) (by kernel_rfl) (by kernel_rfl) (fun _ _ _ h => h) (by kernel_rfl) (by kernel_rfl) (fun _ _ => by kernel_rfl) trivial ?_
    simp only [Act.put, List.setIfInBounds_toArray, List.set_cons_succ, List.set_cons_zero]
    refine gsem 16 (some 167) (pt P) rfl (by kernel_rfl) (by kernel_rfl) (by kernel_rfl) (fun _ _ _ h => h) (by kernel_rfl) (by kernel_rfl) (fun _ _ => by kernel_rfl) trivial ?_
    simp only [Act.put, List.setIfInBounds_toArray, List.set_cons_succ, List.set_cons_zero]
    refine gsem 17 (some 168) (.pointer (some ⟨P, 2, none⟩)) rfl (by kernel_rfl) (by kernel_rfl) (by kernel_rfl) (fun _ _ _ h => h) (by kernel_rfl) (by kernel_rfl) (fun _ _ => by kernel_rfl) trivial ?_
    simp only [Act.put, List.setIfInBounds_toArray, List.set_cons_succ, List.set_cons_zero]
    refine wpAnyH_ready (rs := [6, 11]) (by kernel_rfl) (by simp) (gval 6 (some 158) (V := pt Q1.r) rfl (by kernel_rfl) (by kernel_rfl) (ex_load1 28 Tryz.isAgg28 rfl rfl ((unhide HP3).drew.hold) rfl) trivial ?_ (gval 11 (some 163) (V := pt Q0.r) rfl (by kernel_rfl) (by kernel_rfl) (ex_load1 28 Tryz.isAgg28 rfl rfl ((unhide HP3).drew.hold) rfl) trivial ?_ AllReadyH.nil))
    · simp only [Act.put, List.setIfInBounds_toArray, List.set_cons_succ, List.set_cons_zero]
      refine wpAnyH_ready (rs := [11]) (by kernel_rfl) (by simp) (gval 11 (some 163) (V := pt Q0.r) rfl (by kernel_rfl) (by kernel_rfl) (ex_load1 28 Tryz.isAgg28 rfl rfl ((unhide HP3).drew.hold) rfl) trivial ?_ AllReadyH.nil)
      simp only [Act.put, List.setIfInBounds_toArray, List.set_cons_succ, List.set_cons_zero]
      refine gsem 14 (some 166) (.pointer (some ⟨P, 2, none⟩)) rfl (by kernel_rfl) (by kernel_rfl) (by kernel_rfl) (fun _ _ _ h => h) (by kernel_rfl) (by kernel_rfl) (fun X hX => ex_indexA 29 2 1 0 und29 len29 idx29 rfl rfl rfl (by decide)) trivial ?_
      simp only [Act.put, List.setIfInBounds_toArray, List.set_cons_succ, List.set_cons_zero]
      refine wpAnyH_ready (rs := [15]) (by kernel_rfl) (by simp) (gskp 15 none rfl (by kernel_rfl) (by kernel_rfl) (ex_store (t := 28) (b := P) (p := 2) (vs := [pt Q1.r]) rfl rfl rfl rfl (by simp [Value.oneCell']) siz28 ((unhide HP3).drew.hold) (by simp [cput])) trivial ?_ AllReadyH.nil)
      simp only [Act.put, List.setIfInBounds_toArray, List.set_cons_succ, List.set_cons_zero]
      refine gsem 18 (some 169) (.pointer (some ⟨P, 3, none⟩)) rfl (by kernel_rfl) (by kernel_rfl) (by kernel_rfl) (fun _ _ _ h => h) (by kernel_rfl) (by kernel_rfl) (fun X hX => ex_indexA 29 2 1 1 und29 len29 idx29 rfl rfl rfl (by decide)) trivial ?_
      simp only [Act.put, List.setIfInBounds_toArray, List.set_cons_succ, List.set_cons_zero]
      refine wpAnyH_ready (rs := [19]) (by kernel_rfl) (by simp) (gskp 19 none rfl (by kernel_rfl) (by kernel_rfl) (ex_store (t := 28) (b := P) (p := 3) (vs := [pt Q0.r]) rfl rfl rfl rfl (by simp [Value.oneCell']) siz28 (((unhide HP3).drew.hold).put 2 [pt Q1.r] (by simp)) (by simp [cput])) trivial ?_ AllReadyH.nil)
      simp only [Act.put, List.setIfInBounds_toArray, List.set_cons_succ, List.set_cons_zero]
      refine wpAnyH_done (by kernel_rfl) ?_ _
      try simp only [Act.put, List.setIfInBounds_toArray, List.set_cons_succ, List.set_cons_zero]
      have FIN : Hid (Left w0 ((X3.drew.setCells P 2 [pt Q1.r]).setCells P 3 [pt Q0.r]) P) := hide ⟨R1, R0, Q1, Q0, (unhide HP3).drew.swapped2, (unhide HE).2, (unhide HE).1⟩
      generalize (X3.drew.setCells P 2 [pt Q1.r]).setCells P 3 [pt Q0.r] = X5 at *
      clear hS0 HP3
      go_wp2
      go_ret
      exact ⟨rfl, unhide FIN⟩
    · simp only [Act.put, List.setIfInBounds_toArray, List.set_cons_succ, List.set_cons_zero]
      refine wpAnyH_ready (rs := [6]) (by kernel_rfl) (by simp) (gval 6 (some 158) (V := pt Q1.r) rfl (by kernel_rfl) (by kernel_rfl) (ex_load1 28 Tryz.isAgg28 rfl rfl ((unhide HP3).drew.hold) rfl) trivial ?_ AllReadyH.nil)
      simp only [Act.put, List.setIfInBounds_toArray, List.set_cons_succ, List.set_cons_zero]
      refine gsem 14 (some 166) (.pointer (some ⟨P, 2, none⟩)) rfl (by kernel_rfl) (by kernel_rfl) (by kernel_rfl) (fun _ _ _ h => h) (by kernel_rfl) (by kernel_rfl) (fun X hX => ex_indexA 29 2 1 0 und29 len29 idx29 rfl rfl rfl (by decide)) trivial ?_
      simp only [Act.put, List.setIfInBounds_toArray, List.set_cons_succ, List.set_cons_zero]
      refine wpAnyH_ready (rs := [15]) (by kernel_rfl) (by simp) (gskp 15 none rfl (by kernel_rfl) (by kernel_rfl) (ex_store (t := 28) (b := P) (p := 2) (vs := [pt Q1.r]) rfl rfl rfl rfl (by simp [Value.oneCell']) siz28 ((unhide HP3).drew.hold) (by simp [cput])) trivial ?_ AllReadyH.nil)
      simp only [Act.put, List.setIfInBounds_toArray, List.set_cons_succ, List.set_cons_zero]
      refine gsem 18 (some 169) (.pointer (some ⟨P, 3, none⟩)) rfl (by kernel_rfl) (by kernel_rfl) (by kernel_rfl) (fun _ _ _ h => h) (by kernel_rfl) (by kernel_rfl) (fun X hX => ex_indexA 29 2 1 1 und29 len29 idx29 rfl rfl rfl (by decide)) trivial ?_
      simp only [Act.put, List.setIfInBounds_toArray, List.set_cons_succ, List.set_cons_zero]
      refine wpAnyH_ready (rs := [19]) (by kernel_rfl) (by simp) (gskp 19 none rfl (by kernel_rfl) (by kernel_rfl) (ex_store (t := 28) (b := P) (p := 3) (vs := [pt Q0.r]) rfl rfl rfl rfl (by simp [Value.oneCell']) siz28 (((unhide HP3).drew.hold).put 2 [pt Q1.r] (by simp)) (by simp [cput])) trivial ?_ AllReadyH.nil)
      simp only [Act.put, List.setIfInBounds_toArray, List.set_cons_succ, List.set_cons_zero]
      refine wpAnyH_done (by kernel_rfl) ?_ _
      try simp only [Act.put, List.setIfInBounds_toArray, List.set_cons_succ, List.set_cons_zero]
      have FIN : Hid (Left w0 ((X3.drew.setCells P 2 [pt Q1.r]).setCells P 3 [pt Q0.r]) P) := hide ⟨R1, R0, Q1, Q0, (unhide HP3).drew.swapped2, (unhide HE).2, (unhide HE).1⟩
      generalize (X3.drew.setCells P 2 [pt Q1.r]).setCells P 3 [pt Q0.r] = X5 at *
      clear hS0 HP3
      go_wp2
      go_ret
      exact ⟨rfl, unhide FIN⟩
  · simp only [Act.put, List.setIfInBounds_toArray, List.set_cons_succ, List.set_cons_zero]
    refine wpAnyH_ready (rs := [6]) (by kernel_rfl) (by simp) (gval 6 (some 140) (V := pt R1.r) rfl (by kernel_rfl) (by kernel_rfl) (ex_load1 26 Tryz.isAgg26 rfl rfl ((unhide HB).ps.drew.hold) rfl) trivial ?_ AllReadyH.nil)
    simp only [Act.put, List.setIfInBounds_toArray, List.set_cons_succ, List.set_cons_zero]
    refine gsem 14 (some 148) (.pointer (some ⟨P, 0, none⟩)) rfl (by kernel_rfl) (by kernel_rfl) (by kernel_rfl) (fun _ _ _ h => h) (by kernel_rfl) (by kernel_rfl) (fun X hX => ex_indexA 27 2 1 0 und27 len27 idx27 rfl rfl rfl (by decide)) trivial ?_
    simp only [Act.put, List.setIfInBounds_toArray, List.set_cons_succ, List.set_cons_zero]
    refine wpAnyH_ready (rs := [15]) (by kernel_rfl) (by simp) (gskp 15 none rfl (by kernel_rfl) (by kernel_rfl) (ex_store (t := 26) (b := P) (p := 0) (vs := [pt R1.r]) rfl rfl rfl rfl (by simp [Value.oneCell']) siz26 ((unhide HB).ps.drew.hold) (by simp [cput])) trivial ?_ AllReadyH.nil)
    simp only [Act.put, List.setIfInBounds_toArray, List.set_cons_succ, List.set_cons_zero]
    refine gsem 18 (some 151) (.pointer (some ⟨P, 1, none⟩)) rfl (by kernel_rfl) (by kernel_rfl) (by kernel_rfl) (fun _ _ _ h => h) (by kernel_rfl) (by kernel_rfl) (fun X hX => ex_indexA 27 2 1 1 und27 len27 idx27 rfl rfl rfl (by decide)) trivial ?_
    simp only [Act.put, List.setIfInBounds_toArray, List.set_cons_succ, List.set_cons_zero]
    refine wpAnyH_ready (rs := [19]) (by kernel_rfl) (by simp) (gskp 19 none rfl (by kernel_rfl) (by kernel_rfl) (ex_store (t := 26) (b := P) (p := 1) (vs := [pt R0.r]) rfl rfl rfl rfl (by simp [Value.oneCell']) siz26 (((unhide HB).ps.drew.hold).put 0 [pt R1.r] (by simp)) (by simp [cput])) trivial ?_ AllReadyH.nil)
    simp only [Act.put, List.setIfInBounds_toArray, List.set_cons_succ, List.set_cons_zero]
    refine wpAnyH_done (by kernel_rfl) ?_ _
    try simp only [Act.put, List.setIfInBounds_toArray, List.set_cons_succ, List.set_cons_zero]
    have HP3 : Hid (PS w0 ((X1.drew.setCells P 0 [pt R1.r]).setCells P 1 [pt R0.r]) P R1 R0 Q0 Q1) := hide (unhide HB).ps.drew.swapped0
    generalize (X1.drew.setCells P 0 [pt R1.r]).setCells P 1 [pt R0.r] = X3 at *
    clear hS0 HB LL
    go_wp2
    refine wp_region_held_drew (P := Tryz.prog) (S := fun _ => True) (by kernel_rfl) trivial (fun hS0 => ?_)
    refine gsem 0 (some 152) (pt P) rfl (by kernel_rfl) (by kernel_rfl) (by kernel_rfl) (fun _ _ _ h => h) (by kernel_rfl) (by kernel_rfl) (fun _ _ => by kernel_rfl) trivial ?_
    simp only [Act.put, List.setIfInBounds_toArray, List.set_cons_succ, List.set_cons_zero]
    refine gsem 1 (some 153) (pt P) rfl (by kernel_rfl) (by kernel_rfl) (by kernel_rfl) (fun _ _ _ h => h) (by kernel_rfl) (by kernel_rfl) (fun _ _ => by kernel_rfl) trivial ?_
    simp only [Act.put, List.setIfInBounds_toArray, List.set_cons_succ, List.set_cons_zero]
    refine gsem 2 (some 154) (pt P) rfl (by kernel_rfl) (by kernel_rfl) (by kernel_rfl) (fun _ _ _ h => h) (by kernel_rfl) (by kernel_rfl) (fun _ _ => by kernel_rfl) trivial ?_
    simp only [Act.put, List.setIfInBounds_toArray, List.set_cons_succ, List.set_cons_zero]
    refine gsem 3 (some 155) (pt P) rfl (by kernel_rfl) (by kernel_rfl) (by kernel_rfl) (fun _ _ _ h => h) (by kernel_rfl) (by kernel_rfl) (fun _ _ => by kernel_rfl) trivial ?_
    simp only [Act.put, List.setIfInBounds_toArray, List.set_cons_succ, List.set_cons_zero]
    refine gsem 4 (some 156) (.pointer (some ⟨P, 2, none⟩)) rfl (by kernel_rfl) (by kernel_rfl) (by kernel_rfl) (fun _ _ _ h => h) (by kernel_rfl) (by kernel_rfl) (fun _ _ => by kernel_rfl) trivial ?_
    simp only [Act.put, List.setIfInBounds_toArray, List.set_cons_succ, List.set_cons_zero]
    refine gsem 5 (some 157) (.pointer (some ⟨P, 3, none⟩)) rfl (by kernel_rfl) (by kernel_rfl) (by kernel_rfl) (fun _ _ _ h => h) (by kernel_rfl) (by kernel_rfl) (fun X hX => ex_indexA 29 2 1 1 und29 len29 idx29 rfl rfl rfl (by decide)) trivial ?_
    simp only [Act.put, List.setIfInBounds_toArray, List.set_cons_succ, List.set_cons_zero]
    refine gsem 7 (some 159) (pt P) rfl (by kernel_rfl) (by kernel_rfl) (by kernel_rfl) (fun _ _ _ h => h) (by kernel_rfl) (by kernel_rfl) (fun _ _ => by kernel_rfl) trivial ?_
    simp only [Act.put, List.setIfInBounds_toArray, List.set_cons_succ, List.set_cons_zero]
    refine gsem 8 (some 160) (pt P) rfl (by kernel_rfl) (by kernel_rfl) (by kernel_rfl) (fun _ _ _ h => h) (by kernel_rfl) (by kernel_rfl) (fun _ _ => by kernel_rfl) trivial ?_
    simp only [Act.put, List.setIfInBounds_toArray, List.set_cons_succ, List.set_cons_zero]
    refine gsem 9 (some 161) (.pointer (some ⟨P, 2, none⟩)) rfl (by kernel_rfl) (by kernel_rfl) (by kernel_rfl) (fun _ _ _ h => h) (by kernel_rfl) (by kernel_rfl) (fun _ _ => by kernel_rfl) trivial ?_
    simp only [Act.put, List.setIfInBounds_toArray, List.set_cons_succ, List.set_cons_zero]
    refine gsem 10 (some 162) (.pointer (some ⟨P, 2, none⟩)) rfl (by kernel_rfl) (by kernel_rfl) (by kernel_rfl) (fun _ _ _ h => h) (by kernel_rfl) (by kernel_rfl) (fun X hX => ex_indexA 29 2 1 0 und29 len29 idx29 rfl rfl rfl (by decide)) trivial ?_
    simp only [Act.put, List.setIfInBounds_toArray, List.set_cons_succ, List.set_cons_zero]
    refine gsem 12 (some 164) (pt P) rfl (by kernel_rfl) (by kernel_rfl) (by kernel_rfl) (fun _ _ _ h => h) (by kernel_rfl) (by kernel_rfl) (fun _ _ => by kernel_rfl) trivial ?_
    simp only [Act.put, List.setIfInBounds_toArray, List.set_cons_succ, List.set_cons_zero]
    refine gsem 13 (some 165) (.pointer (some ⟨P, 2, none⟩)) rfl (by kernel_rfl) (by kernel_rfl) (by kernel_rfl) (fun _ _ _ h => h) (by kernel_rfl) (by kernel_rfl) (fun _ _ => by kernel_rfl) trivial ?_
    simp only [Act.put, List.setIfInBounds_toArray, List.set_cons_succ, List.set_cons_zero]
    refine gsem 16 (some 167) (pt P) rfl (by kernel_rfl) (by kernel_rfl) (by kernel_rfl) (fun _ _ _ h => h) (by kernel_rfl) (by kernel_rfl) (fun _ _ => by kernel_rfl) trivial ?_
    simp only [Act.put, List.setIfInBounds_toArray, List.set_cons_succ, List.set_cons_zero]
    refine gsem 17 (some 168) (.pointer (some ⟨P, 2, none⟩)) rfl (by kernel_rfl) (by kernel_rfl) (by kernel_rfl) (fun _ _ _ h => h) (by kernel_rfl) (by kernel_rfl) (fun _ _ => by kernel_rfl) trivial ?_
    simp only [Act.put, List.setIfInBounds_toArray, List.set_cons_succ, List.set_cons_zero]
    refine wpAnyH_ready (rs := [6, 11]) (by kernel_rfl) (by simp) (gval 6 (some 158) (V := pt Q1.r) rfl (by kernel_rfl) (by kernel_rfl) (ex_load1 28 Tryz.isAgg28 rfl rfl ((unhide HP3).drew.hold) rfl) trivial ?_ (gval 11 (some 163) (V := pt Q0.r) rfl (by kernel_rfl) (by kernel_rfl) (ex_load1 28 Tryz.isAgg28 rfl rfl ((unhide HP3).drew.hold) rfl) trivial ?_ AllReadyH.nil))
    · simp only [Act.put, List.setIfInBounds_toArray, List.set_cons_succ, List.set_cons_zero]
      refine wpAnyH_ready (rs := [11]) (by kernel_rfl) (by simp) (gval 11 (some 163) (V := pt Q0.r) rfl (by kernel_rfl) (by kernel_rfl) (ex_load1 28 Tryz.isAgg28 rfl rfl ((unhide HP3).drew.hold) rfl) trivial ?_ AllReadyH.nil)
      simp only [Act.put, List.setIfInBounds_toArray, List.set_cons_succ, List.set_cons_zero]
      refine gsem 14 (some 166) (.pointer (some ⟨P, 2, none⟩)) rfl (by kernel_rfl) (by kernel_rfl) (by kernel_rfl) (fun _ _ _ h => h) (by kernel_rfl) (by kernel_rfl) (fun X hX => ex_indexA 29 2 1 0 und29 len29 idx29 rfl rfl rfl (by decide)) trivial ?_
      simp only [Act.put, List.setIfInBounds_toArray, List.set_cons_succ, List.set_cons_zero]
      refine wpAnyH_ready (rs := [15]) (by kernel_rfl) (by simp) (gskp 15 none rfl (by kernel_rfl) (by kernel_rfl) (ex_store (t := 28) (b := P) (p := 2) (vs := [pt Q1.r]) rfl rfl rfl rfl (by simp [Value.oneCell']) siz28 ((unhide HP3).drew.hold) (by simp [cput])) trivial ?_ AllReadyH.nil)
      simp only [Act.put, List.setIfInBounds_toArray, List.set_cons_succ, List.set_cons_zero]
      refine gsem 18 (some 169) (.pointer (some ⟨P, 3, none⟩)) rfl (by kernel_rfl) (by kernel_rfl) (by kernel_rfl) (fun _ _ _ h => h) (by kernel_rfl) (by kernel_rfl) (fun X hX => ex_indexA 29 2 1 1 und29 len29 idx29 rfl rfl rfl (by decide)) trivial ?_
      simp only [Act.put, List.setIfInBounds_toArray, List.set_cons_succ, List.set_cons_zero]
      refine wpAnyH_ready (rs := [19]) (by kernel_rfl) (by simp) (gskp 19 none rfl (by kernel_rfl) (by kernel_rfl) (ex_store (t := 28) (b := P) (p := 3) (vs := [pt Q0.r]) rfl rfl rfl rfl (by simp [Value.oneCell']) siz28 (((unhide HP3).drew.hold).put 2 [pt Q1.r] (by simp)) (by simp [cput])) trivial ?_ AllReadyH.nil)
      simp only [Act.put, List.setIfInBounds_toArray, List.set_cons_succ, List.set_cons_zero]
      refine wpAnyH_done (by kernel_rfl) ?_ _
      try simp only [Act.put, List.setIfInBounds_toArray, List.set_cons_succ, List.set_cons_zero]
      have FIN : Hid (Left w0 ((X3.drew.setCells P 2 [pt Q1.r]).setCells P 3 [pt Q0.r]) P) := hide ⟨R1, R0, Q1, Q0, (unhide HP3).drew.swapped2, (unhide HE).2, (unhide HE).1⟩
      generalize (X3.drew.setCells P 2 [pt Q1.r]).setCells P 3 [pt Q0.r] = X5 at *
      clear hS0 HP3
      go_wp2
      go_ret
      exact ⟨rfl, unhide FIN⟩
    · simp only [Act.put, List.setIfInBounds_toArray, List.set_cons_succ, List.set_cons_zero]
      refine wpAnyH_ready (rs := [6]) (by kernel_rfl) (by simp) (gval 6 (some 158) (V := pt Q1.r) rfl (by kernel_rfl) (by kernel_rfl) (ex_load1 28 Tryz.isAgg28 rfl rfl ((unhide HP3).drew.hold) rfl) trivial ?_ AllReadyH.nil)
      simp only [Act.put, List.setIfInBounds_toArray, List.set_cons_succ, List.set_cons_zero]
      refine gsem 14 (some 166) (.pointer (some ⟨P, 2, none⟩)) rfl (by kernel_rfl) (by kernel_rfl) (by kernel_rfl) (fun _ _ _ h => h) (by kernel_rfl) (by kernel_rfl) (fun X hX => ex_indexA 29 2 1 0 und29 len29 idx29 rfl rfl rfl (by decide)) trivial ?_
      simp only [Act.put, List.setIfInBounds_toArray, List.set_cons_succ, List.set_cons_zero]
      refine wpAnyH_ready (rs := [15]) (by kernel_rfl) (by simp) (gskp 15 none rfl (by kernel_rfl) (by kernel_rfl) (ex_store (t := 28) (b := P) (p := 2) (vs := [pt Q1.r]) rfl rfl rfl rfl (by simp [Value.oneCell']) siz28 ((unhide HP3).drew.hold) (by simp [cput])) trivial ?_ AllReadyH.nil)
      simp only [Act.put, List.setIfInBounds_toArray, List.set_cons_succ, List.set_cons_zero]
      refine gsem 18 (some 169) (.pointer (some ⟨P, 3, none⟩)) rfl (by kernel_rfl) (by kernel_rfl) (by kernel_rfl) (fun _ _ _ h => h) (by kernel_rfl) (by kernel_rfl) (fun X hX => ex_indexA 29 2 1 1 und29 len29 idx29 rfl rfl rfl (by decide)) trivial ?_
      simp only [Act.put, List.setIfInBounds_toArray, List.set_cons_succ, List.set_cons_zero]
      refine wpAnyH_ready (rs := [19]) (by kernel_rfl) (by simp) (gskp 19 none rfl (by kernel_rfl) (by kernel_rfl) (ex_store (t := 28) (b := P) (p := 3) (vs := [pt Q0.r]) rfl rfl rfl rfl (by simp [Value.oneCell']) siz28 (((unhide HP3).drew.hold).put 2 [pt Q1.r] (by simp)) (by simp [cput])) trivial ?_ AllReadyH.nil)
      simp only [Act.put, List.setIfInBounds_toArray, List.set_cons_succ, List.set_cons_zero]
      refine wpAnyH_done (by kernel_rfl) ?_ _
      try simp only [Act.put, List.setIfInBounds_toArray, List.set_cons_succ, List.set_cons_zero]
      have FIN : Hid (Left w0 ((X3.drew.setCells P 2 [pt Q1.r]).setCells P 3 [pt Q0.r]) P) := hide ⟨R1, R0, Q1, Q0, (unhide HP3).drew.swapped2, (unhide HE).2, (unhide HE).1⟩
      generalize (X3.drew.setCells P 2 [pt Q1.r]).setCells P 3 [pt Q0.r] = X5 at *
      clear hS0 HP3
      go_wp2
      go_ret
      exact ⟨rfl, unhide FIN⟩
end Go.Proofs.YtkpfikeggleenaaGreatDoor

/-! Xp -/
namespace Go.Proofs.YtkpfikeggleenaaGreatDoor
open Go Go.Proofs Go.Maps Go.RowKit
set_option linter.unusedSimpArgs false
set_option linter.unusedVariables false
set_option maxHeartbeats 1000000
set_option maxHeartbeats 4000000 in
set_option maxRecDepth 100000 in
theorem play_many {w0 : World} {P : Nat} {R0 R1 : RG} {Q0 Q1 : RF} (v : VV) (s : ByteArray) (n : Int) (w : World) (hP : PS w0 w P R0 R1 Q0 Q1) (e0 : Q0.l = R0.l) (e1 : Q1.l = R1.l) (hT : Tabs w0) : Calls Tryz.prog 6 #[pt P, .agg (AC.mk 7 v s n).cs.toArray] w fun e w' => e = .returned (.bool true) ∧ Left w0 w' P := by
  have HPS := hide hP
  have HE := hide (And.intro e0 e1)
  have HT := hide hT
  have LL := hide (Hq.nil w [])
  clear hP e0 e1 hT
  have HE1 := hide (unhide HE).2
  go_enter Tryz.func6, Tryz.ntmps6
  go_wp2_with (first | go_skip | ((with_reducible show wpList _ _ _ _ _ _); first | ((refine bx 37 ((AC.mk 7 v s n).cs) (by rfl) rfl rfl rfl (Nat.succ_pos _) (unhide LL) ?_); intro X1 B1 hE1 L1 hb1; have hB1 := hide (Nat.le_trans (unhide LL).fr.size (Nat.le_of_eq hE1.symm)); replace LL := hide L1; have HB := hide (PB.new (a := (AC.mk 7 v s n)) (unhide HPS) hb1 (unhide hB1) ((unhide LL).get 0 rfl)); clear L1 hb1 hE1; simp only [Act.put, List.setIfInBounds_toArray, List.set_cons_succ, List.set_cons_zero]) | ((refine rd (by rfl) (ex_load1 3 Tryz.isAgg3 rfl rfl ((unhide LL).get 0 rfl) rfl) ?_); simp only [Act.put, List.setIfInBounds_toArray, List.set_cons_succ, List.set_cons_zero])))
  have H0 : Hid (PB w0 X1 P R0 R1 Q0 Q1 B1 (AC.mk 7 v s n) ∧ Q0.l = R0.l) := hide ⟨unhide HB, (unhide HE).1⟩
  clear HB LL HPS HE
  go_loopg [13] 70000 (fun gm s13 wr => ∃ (k : Nat) (R0 : RG) (Q0 : RF), s13 = .int .i64 k ∧ k ≤ 70000 ∧ 70000 - k ≤ gm ∧ Hid (PB w0 wr P R0 R1 Q0 Q1 B1 (AC.mk 7 v s n) ∧ Q0.l = R0.l))
  case atStart => exact ⟨0, R0, Q0, rfl, by omega, by omega, H0⟩
  case round =>
    clear H0
    obtain ⟨k, R0, Q0, rfl, hk, hgm, HI⟩ := hrel
    by_cases hn : (k : Int) < n
    · have hln : decide ((k : Int) < n) = true := decide_eq_true hn
      by_cases h7 : k < 70000
      · have hl7 : decide ((k : Int) < 70000) = true := decide_eq_true (by omega)
        have hw1 : IntKind.i64.wrap ((k : Int) + 1) = (k : Int) + 1 := by rw [IntKind.wrap_i64]; omega
        have HK := hide (And.intro h7 hk)
        clear h7 hk hn
        obtain ⟨N, E, hE, c0⟩ := make_both (unhide HI).1.ps (unhide HI).2 (unhide HT) undV (by decide)
        have HEE := hide hE
        have C0 := hide c0
        clear hE c0
        go_wp2_with (first | go_skip | ((with_reducible show wpList _ _ _ _ _ _); first | ((refine rd (by rfl) (ex_load1 3 Tryz.isAgg3 rfl rfl ((unhide HI).1.hb) rfl) ?_); simp only [Act.put, List.setIfInBounds_toArray, List.set_cons_succ, List.set_cons_zero])))
        have hb0 := (unhide HI).1.drew
        have s0 : Holds wr.drew P (P4 R0 R1 Q0 Q1) := hb0.ps.hold
        refine wp_region_held_drew (P := Tryz.prog) (S := fun X => Holds X P (P4 R0 R1 Q0 Q1)) (by kernel_rfl) s0 (fun hS0 => ?_)
        refine gsem 0 (some 183) (pt P) rfl (by kernel_rfl) (by kernel_rfl) (by kernel_rfl) (fun _ _ _ h => h) (by kernel_rfl) (by kernel_rfl) (fun _ _ => by kernel_rfl) s0 ?_
        simp only [Act.put, List.setIfInBounds_toArray, List.set_cons_succ, List.set_cons_zero]
        refine gsem 1 (some 184) (pt P) rfl (by kernel_rfl) (by kernel_rfl) (by kernel_rfl) (fun _ _ _ h => h) (by kernel_rfl) (by kernel_rfl) (fun _ _ => by kernel_rfl) s0 ?_
        simp only [Act.put, List.setIfInBounds_toArray, List.set_cons_succ, List.set_cons_zero]
        refine gsem 2 (some 185) (.pointer (some ⟨P, 0, none⟩)) rfl (by kernel_rfl) (by kernel_rfl) (by kernel_rfl) (fun _ _ _ h => h) (by kernel_rfl) (by kernel_rfl) (fun _ _ => by kernel_rfl) s0 ?_
        simp only [Act.put, List.setIfInBounds_toArray, List.set_cons_succ, List.set_cons_zero]
        refine gsem 3 (some 186) (.pointer (some ⟨P, 0, none⟩)) rfl (by kernel_rfl) (by kernel_rfl) (by kernel_rfl) (fun _ _ _ h => h) (by kernel_rfl) (by kernel_rfl) (fun X hX => ex_indexA 27 2 1 0 und27 len27 idx27 rfl rfl rfl (by decide)) s0 ?_
        simp only [Act.put, List.setIfInBounds_toArray, List.set_cons_succ, List.set_cons_zero]
        refine gsem 4 (some 187) (pt R0.r) rfl (by kernel_rfl) (by kernel_rfl) (by kernel_rfl) (fun _ _ _ h => h) (by kernel_rfl) (by kernel_rfl) (fun X hX => ex_load1 26 Tryz.isAgg26 rfl rfl (hX) rfl) s0 ?_
        simp only [Act.put, List.setIfInBounds_toArray, List.set_cons_succ, List.set_cons_zero]
        refine wpAnyH_ready (rs := [5]) (by kernel_rfl) (by simp) (gcallR 5 (some 188) rfl (by kernel_rfl) (by kernel_rfl) (by kernel_rfl) (undef18 _) ?_ AllReadyH.nil)
        rintro e X2 ⟨rfl, hb2⟩
        have hq2 := hb0.on hb2
        have s2 : Holds X2 P (P4 R0 R1 Q0 Q1) := hq2.ps.hold
        have c1 := unhide C0 X2 ((below_dr (Below.refl _ _)).trans hb2)
        refine ⟨_, rfl, s2, ?_⟩
        simp only [Act.put, List.setIfInBounds_toArray, List.set_cons_succ, List.set_cons_zero]
        refine wpAnyH_ready (rs := [6]) (by kernel_rfl) (by simp) (gcallR 6 (some 189) rfl (by kernel_rfl) (by kernel_rfl) (by kernel_rfl) c1 ?_ AllReadyH.nil)
        rintro e X3 ⟨rfl, R0', hp3, hm3, c2⟩
        have hq3 := hq2.mv0 hp3 hm3
        have s3 : Holds X3 P (P4 R0 R1 Q0 Q1) := by have := hq3.ps.hold; rw [hm3.2.1] at this; exact this
        refine ⟨_, rfl, s3, ?_⟩
        simp only [Act.put, List.setIfInBounds_toArray, List.set_cons_succ, List.set_cons_zero]
        refine gsem 7 (some 182) (.tuple #[.int .i64 N, .int .i64 E]) rfl (by kernel_rfl) (by kernel_rfl) (by kernel_rfl) (fun _ _ _ h => h) (by kernel_rfl) (by kernel_rfl) (fun _ _ => by kernel_rfl) s3 ?_
        simp only [Act.put, List.setIfInBounds_toArray, List.set_cons_succ, List.set_cons_zero]
        refine gsem 8 (some 190) (.int .i64 N) rfl (by kernel_rfl) (by kernel_rfl) (by kernel_rfl) (fun _ _ _ h => h) (by kernel_rfl) (by kernel_rfl) (fun _ _ => by kernel_rfl) s3 ?_
        simp only [Act.put, List.setIfInBounds_toArray, List.set_cons_succ, List.set_cons_zero]
        refine gsem 9 (some 191) (.int .i64 E) rfl (by kernel_rfl) (by kernel_rfl) (by kernel_rfl) (fun _ _ _ h => h) (by kernel_rfl) (by kernel_rfl) (fun _ _ => by kernel_rfl) s3 ?_
        simp only [Act.put, List.setIfInBounds_toArray, List.set_cons_succ, List.set_cons_zero]
        refine gsem 10 (some 14) (.int .i64 N) rfl (by kernel_rfl) (by kernel_rfl) (by kernel_rfl) (fun _ _ _ h => h) (by kernel_rfl) (by kernel_rfl) (fun _ _ => by kernel_rfl) s3 ?_
        simp only [Act.put, List.setIfInBounds_toArray, List.set_cons_succ, List.set_cons_zero]
        refine gsem 11 (some 15) (.int .i64 E) rfl (by kernel_rfl) (by kernel_rfl) (by kernel_rfl) (fun _ _ _ h => h) (by kernel_rfl) (by kernel_rfl) (fun _ _ => by kernel_rfl) s3 ?_
        simp only [Act.put, List.setIfInBounds_toArray, List.set_cons_succ, List.set_cons_zero]
        refine wpAnyH_done (by kernel_rfl) ?_ _
        try simp only [Act.put, List.setIfInBounds_toArray, List.set_cons_succ, List.set_cons_zero]
        have HB2 := hide hq3
        have C2 := hide c2
        clear hb0 s0 c1 c2 s2 s3 hS0 hp3 hm3 hq3 hq2 hb2 HI C0
        go_wp2
        have hb0 := (unhide HB2).drew
        have s0 : Holds X3.drew P (P4 R0' R1 Q0 Q1) := hb0.ps.hold
        refine wp_region_held_drew (P := Tryz.prog) (S := fun X => Holds X P (P4 R0' R1 Q0 Q1)) (by kernel_rfl) s0 (fun hS0 => ?_)
        refine gsem 0 (some 193) (pt P) rfl (by kernel_rfl) (by kernel_rfl) (by kernel_rfl) (fun _ _ _ h => h) (by kernel_rfl) (by kernel_rfl) (fun _ _ => by kernel_rfl) s0 ?_
        simp only [Act.put, List.setIfInBounds_toArray, List.set_cons_succ, List.set_cons_zero]
        refine gsem 1 (some 194) (pt P) rfl (by kernel_rfl) (by kernel_rfl) (by kernel_rfl) (fun _ _ _ h => h) (by kernel_rfl) (by kernel_rfl) (fun _ _ => by kernel_rfl) s0 ?_
        simp only [Act.put, List.setIfInBounds_toArray, List.set_cons_succ, List.set_cons_zero]
        refine gsem 2 (some 195) (.pointer (some ⟨P, 2, none⟩)) rfl (by kernel_rfl) (by kernel_rfl) (by kernel_rfl) (fun _ _ _ h => h) (by kernel_rfl) (by kernel_rfl) (fun _ _ => by kernel_rfl) s0 ?_
        simp only [Act.put, List.setIfInBounds_toArray, List.set_cons_succ, List.set_cons_zero]
        refine gsem 3 (some 196) (.pointer (some ⟨P, 2, none⟩)) rfl (by kernel_rfl) (by kernel_rfl) (by kernel_rfl) (fun _ _ _ h => h) (by kernel_rfl) (by kernel_rfl) (fun X hX => ex_indexA 29 2 1 0 und29 len29 idx29 rfl rfl rfl (by decide)) s0 ?_
        simp only [Act.put, List.setIfInBounds_toArray, List.set_cons_succ, List.set_cons_zero]
        refine gsem 4 (some 197) (pt Q0.r) rfl (by kernel_rfl) (by kernel_rfl) (by kernel_rfl) (fun _ _ _ h => h) (by kernel_rfl) (by kernel_rfl) (fun X hX => ex_load1 28 Tryz.isAgg28 rfl rfl (hX) rfl) s0 ?_
        simp only [Act.put, List.setIfInBounds_toArray, List.set_cons_succ, List.set_cons_zero]
        refine wpAnyH_ready (rs := [5]) (by kernel_rfl) (by simp) (gcallR 5 (some 198) rfl (by kernel_rfl) (by kernel_rfl) (by kernel_rfl) (undef18 _) ?_ AllReadyH.nil)
        rintro e X4 ⟨rfl, hb4⟩
        have hq4 := hb0.on hb4
        have s2 : Holds X4 P (P4 R0' R1 Q0 Q1) := hq4.ps.hold
        have c1 := unhide C2 X4 ((below_dr (Below.refl _ _)).trans hb4)
        refine ⟨_, rfl, s2, ?_⟩
        simp only [Act.put, List.setIfInBounds_toArray, List.set_cons_succ, List.set_cons_zero]
        refine wpAnyH_ready (rs := [6]) (by kernel_rfl) (by simp) (gcallR 6 (some 199) rfl (by kernel_rfl) (by kernel_rfl) (by kernel_rfl) c1 ?_ AllReadyH.nil)
        rintro e X5 ⟨rfl, Q0', hp5, hl5, hm5⟩
        have hq5 := hq4.mv2 hp5 hm5
        have s3 : Holds X5 P (P4 R0' R1 Q0 Q1) := by have := hq5.ps.hold; rw [hm5.2.1] at this; exact this
        refine ⟨_, rfl, s3, ?_⟩
        simp only [Act.put, List.setIfInBounds_toArray, List.set_cons_succ, List.set_cons_zero]
        refine gsem 7 (some 192) (.tuple #[.int .i64 N, .int .i64 E]) rfl (by kernel_rfl) (by kernel_rfl) (by kernel_rfl) (fun _ _ _ h => h) (by kernel_rfl) (by kernel_rfl) (fun _ _ => by kernel_rfl) s3 ?_
        simp only [Act.put, List.setIfInBounds_toArray, List.set_cons_succ, List.set_cons_zero]
        refine gsem 8 (some 200) (.int .i64 N) rfl (by kernel_rfl) (by kernel_rfl) (by kernel_rfl) (fun _ _ _ h => h) (by kernel_rfl) (by kernel_rfl) (fun _ _ => by kernel_rfl) s3 ?_
        simp only [Act.put, List.setIfInBounds_toArray, List.set_cons_succ, List.set_cons_zero]
        refine gsem 9 (some 201) (.int .i64 E) rfl (by kernel_rfl) (by kernel_rfl) (by kernel_rfl) (fun _ _ _ h => h) (by kernel_rfl) (by kernel_rfl) (fun _ _ => by kernel_rfl) s3 ?_
        simp only [Act.put, List.setIfInBounds_toArray, List.set_cons_succ, List.set_cons_zero]
        refine gsem 10 (some 16) (.int .i64 N) rfl (by kernel_rfl) (by kernel_rfl) (by kernel_rfl) (fun _ _ _ h => h) (by kernel_rfl) (by kernel_rfl) (fun _ _ => by kernel_rfl) s3 ?_
        simp only [Act.put, List.setIfInBounds_toArray, List.set_cons_succ, List.set_cons_zero]
        refine gsem 11 (some 17) (.int .i64 E) rfl (by kernel_rfl) (by kernel_rfl) (by kernel_rfl) (fun _ _ _ h => h) (by kernel_rfl) (by kernel_rfl) (fun _ _ => by kernel_rfl) s3 ?_
        simp only [Act.put, List.setIfInBounds_toArray, List.set_cons_succ, List.set_cons_zero]
        refine wpAnyH_done (by kernel_rfl) ?_ _
        try simp only [Act.put, List.setIfInBounds_toArray, List.set_cons_succ, List.set_cons_zero]
        have HB3 : Hid (PB w0 X5 P R0' R1 Q0' Q1 B1 (AC.mk 7 v s n) ∧ Q0'.l = R0'.l) := hide ⟨hq5, hl5⟩
        clear hb0 s0 c1 s2 s3 hS0 hp5 hl5 hm5 hq5 hq4 hb4 HB2 C2
        go_wp2_with fail
        refine (num16 E (unhide HEE) _).mono ?_
        rintro e X9 ⟨rfl, h9⟩
        rw [h9]
        clear h9 X9
        go_wp2
        go_roundg (70000 - (k + 1))
        case measure => have := unhide HK; omega
        case rel => exact ⟨k + 1, R0', Q0', by go_num, by have := unhide HK; omega, by omega, HB3⟩
      · have hl7 : decide ((k : Int) < 70000) = false := decide_eq_false (by omega)
        have FIN : Hid (Left w0 wr P) := hide ⟨R0, R1, Q0, Q1, (unhide HI).1.ps, (unhide HI).2, unhide HE1⟩
        go_wp2_with (first | go_skip | ((with_reducible show wpList _ _ _ _ _ _); first | ((refine rd (by rfl) (ex_load1 3 Tryz.isAgg3 rfl rfl ((unhide HI).1.hb) rfl) ?_); simp only [Act.put, List.setIfInBounds_toArray, List.set_cons_succ, List.set_cons_zero])))
        go_ret
        exact ⟨rfl, unhide FIN⟩
    · have hln : decide ((k : Int) < n) = false := decide_eq_false hn
      have FIN : Hid (Left w0 wr P) := hide ⟨R0, R1, Q0, Q1, (unhide HI).1.ps, (unhide HI).2, unhide HE1⟩
      go_wp2_with (first | go_skip | ((with_reducible show wpList _ _ _ _ _ _); first | ((refine rd (by rfl) (ex_load1 3 Tryz.isAgg3 rfl rfl ((unhide HI).1.hb) rfl) ?_); simp only [Act.put, List.setIfInBounds_toArray, List.set_cons_succ, List.set_cons_zero])))
      go_ret
      exact ⟨rfl, unhide FIN⟩
theorem ex_eqNo {o : Oper} {a : Act} {w : World} {x y : Operand} {n m : Int} (ho : o.op = .binOp .eql 3 x y 3) (hx : a.eval x = .int .i64 n) (hc : a.eval y = .int .i64 m) (h : n ≠ m) : (execOp a.eval o).run Tryz.prog w = .ok (.value (.bool false)) w := by
  unfold execOp
  simp only [ho, hx, hc]
  simp [go_sem, eqGuard, h]
set_option maxRecDepth 100000 in
theorem play_other {w0 : World} {P : Nat} {R0 R1 : RG} {Q0 Q1 : RF} (k : Int) (hk : k ≠ 1 ∧ k ≠ 2 ∧ k ≠ 3 ∧ k ≠ 4 ∧ k ≠ 5 ∧ k ≠ 6 ∧ k ≠ 7) (v : VV) (s : ByteArray) (n : Int) (w : World) (hP : PS w0 w P R0 R1 Q0 Q1) (e0 : Q0.l = R0.l) (e1 : Q1.l = R1.l) (hT : Tabs w0) : Calls Tryz.prog 6 #[pt P, .agg (AC.mk k v s n).cs.toArray] w fun e w' => e = .returned (.bool true) ∧ Left w0 w' P := by
  have HPS := hide hP
  have HE := hide (And.intro e0 e1)
  have HT := hide hT
  have LL := hide (Hq.nil w [])
  clear hP e0 e1 hT
  have HK := hide hk
  clear hk
  go_enter Tryz.func6, Tryz.ntmps6
  go_wp2_with (first | go_skip | ((with_reducible show wpList _ _ _ _ _ _); first | ((refine rd (by rfl) (ex_eqNo (m := 1) rfl rfl rfl ((unhide HK).1)) ?_); simp only [Act.put, List.setIfInBounds_toArray, List.set_cons_succ, List.set_cons_zero]) | ((refine rd (by rfl) (ex_eqNo (m := 2) rfl rfl rfl ((unhide HK).2.1)) ?_); simp only [Act.put, List.setIfInBounds_toArray, List.set_cons_succ, List.set_cons_zero]) | ((refine rd (by rfl) (ex_eqNo (m := 3) rfl rfl rfl ((unhide HK).2.2.1)) ?_); simp only [Act.put, List.setIfInBounds_toArray, List.set_cons_succ, List.set_cons_zero]) | ((refine rd (by rfl) (ex_eqNo (m := 4) rfl rfl rfl ((unhide HK).2.2.2.1)) ?_); simp only [Act.put, List.setIfInBounds_toArray, List.set_cons_succ, List.set_cons_zero]) | ((refine rd (by rfl) (ex_eqNo (m := 5) rfl rfl rfl ((unhide HK).2.2.2.2.1)) ?_); simp only [Act.put, List.setIfInBounds_toArray, List.set_cons_succ, List.set_cons_zero]) | ((refine rd (by rfl) (ex_eqNo (m := 6) rfl rfl rfl ((unhide HK).2.2.2.2.2.1)) ?_); simp only [Act.put, List.setIfInBounds_toArray, List.set_cons_succ, List.set_cons_zero]) | ((refine rd (by rfl) (ex_eqNo (m := 7) rfl rfl rfl ((unhide HK).2.2.2.2.2.2)) ?_); simp only [Act.put, List.setIfInBounds_toArray, List.set_cons_succ, List.set_cons_zero]) | ((refine bx 37 ((AC.mk k v s n).cs) (by rfl) rfl rfl rfl (Nat.succ_pos _) (unhide LL) ?_); intro X1 B1 hE1 L1 hb1; have hB1 := hide (Nat.le_trans (unhide LL).fr.size (Nat.le_of_eq hE1.symm)); replace LL := hide L1; have HB := hide (PB.new (a := (AC.mk k v s n)) (unhide HPS) hb1 (unhide hB1) ((unhide LL).get 0 rfl)); clear L1 hb1 hE1; simp only [Act.put, List.setIfInBounds_toArray, List.set_cons_succ, List.set_cons_zero]) | ((refine rd (by rfl) (ex_load1 3 Tryz.isAgg3 rfl rfl ((unhide LL).get 0 rfl) rfl) ?_); simp only [Act.put, List.setIfInBounds_toArray, List.set_cons_succ, List.set_cons_zero])))
  have FIN : Hid (Left w0 X1 P) := hide ⟨R0, R1, Q0, Q1, (unhide HB).ps, unhide HE⟩
  clear HB LL
  go_wp2
  go_ret
  exact ⟨rfl, unhide FIN⟩
/-- An act, whichever. -/
theorem play6 {w0 : World} {P : Nat} (a : AC) (w : World) (hL : Left w0 w P) (hT : Tabs w0) (hx : a.v.x < 2 ^ 64) : Calls Tryz.prog 6 #[pt P, .agg a.cs.toArray] w fun e w' => e = .returned (.bool true) ∧ Left w0 w' P := by
  obtain ⟨R0, R1, Q0, Q1, hP, e0, e1⟩ := hL
  obtain ⟨k, v, s, n⟩ := a
  by_cases h1 : k = 1
  · subst h1; exact play_make v s n w hP e0 e1 hT hx
  by_cases h2 : k = 2
  · subst h2; exact play_for v s n w hP e0 e1 hT
  by_cases h3 : k = 3
  · subst h3; exact play_ask v s n w hP e0 e1 hT
  by_cases h4 : k = 4
  · subst h4; exact play_tell v s n w hP e0 e1 hT
  by_cases h5 : k = 5
  · subst h5; exact play_clone v s n w hP e0 e1 hT
  by_cases h6 : k = 6
  · subst h6; exact play_swap v s n w hP e0 e1 hT
  by_cases h7 : k = 7
  · subst h7; exact play_many v s n w hP e0 e1 hT
  exact play_other k ⟨h1, h2, h3, h4, h5, h6, h7⟩ v s n w hP e0 e1 hT
end Go.Proofs.YtkpfikeggleenaaGreatDoor
