import Derived.Test.YtmgflhhealdfoaaGreatDoorQr
set_option linter.all false
namespace Go.Proofs.YtmgflhhealdfoaaGreatDoor
section
open Go Go.Proofs Go.RowKit FM
def turnV (n d : DD) : Bool := shapeV d != 1 && shapeV d != shapeV n
def forbV (n d : DD) : Bool := if d.c == 2 || d.e != 0 && d.e != n.e || turnV n d then true else if shapeV n == 3 then difV n.g d.g || difV n.s d.s else n.w == 1 && (d.w == 2 || difV n.v d.v)
def becV (n d : DD) : DD := if turnV n d then fillV ⟨d.v, d.g, d.s, d.w, orT d.e n.e, orT d.c n.c⟩ else ⟨orV d.v n.v, orV d.g n.g, orV d.s n.s, orT d.w n.w, orT d.e n.e, orT d.c n.c⟩
set_option maxHeartbeats 2000000 in
set_option maxRecDepth 100000 in
theorem turns_00 (n d : DD) (hn : FD n) (hd : FD d) (h1 : shapeV d = 0) (h2 : shapeV n = 0) (w : World) : Calls Tryz.prog 145 #[n.agg, d.agg] w fun e w' => e = .returned (.bool (turnV n d)) ∧ Below w.heap.size w w' := by
  have HD := hide (shape_any d hd)
  have HN := hide (shape_any n hn)
  clear hn hd
  have LL := hide (Kp.of2 (Lie.new2 w (.D n) (.D d)))
  unfold turnV
  rw [h1, h2]
  rw [h1] at HD
  rw [h2] at HN
  have hq0 : n.agg = .agg #[.int .i64 n.v.k, .bool n.v.b, .float .f64 n.v.x, .string n.v.s, .int .i64 n.v.i, .int .i64 n.g.k, .bool n.g.b, .float .f64 n.g.x, .string n.g.s, .int .i64 n.g.i, .int .i64 n.s.k, .bool n.s.b, .float .f64 n.s.x, .string n.s.s, .int .i64 n.s.i, .int .i64 n.w, .int .i64 n.e, .int .i64 n.c] := rfl
  have hq1 : d.agg = .agg #[.int .i64 d.v.k, .bool d.v.b, .float .f64 d.v.x, .string d.v.s, .int .i64 d.v.i, .int .i64 d.g.k, .bool d.g.b, .float .f64 d.g.x, .string d.g.s, .int .i64 d.g.i, .int .i64 d.s.k, .bool d.s.b, .float .f64 d.s.x, .string d.s.s, .int .i64 d.s.i, .int .i64 d.w, .int .i64 d.e, .int .i64 d.c] := rfl
  rw [hq0, hq1]
  clear hq0 hq1
  go_enter Tryz.func145, Tryz.ntmps145
  go_wp2_with fail
  refine wp_region_held_drew (P := Tryz.prog) (S := fun X => Kp w X [(w.heap.size, .D n), (w.heap.size + 1, .D d)]) (by kernel_rfl) (Kp.drew (unhide LL)) (fun hS0 => ?_)
  refine hload27 0 1 (some 5) (x := .tmp 3) (b := w.heap.size + 1) (d := d) rfl (by kernel_rfl) (by kernel_rfl) (by kernel_rfl) (fun _ _ _ h => h) (by kernel_rfl) (by kernel_rfl) (by kernel_rfl) (by kernel_rfl) rfl hS0 ?_
  simp only [Act.put, List.setIfInBounds_toArray, List.set_cons_succ, List.set_cons_zero]
  refine hcall 1 (some 6) rfl (by kernel_rfl) (by kernel_rfl) (by kernel_rfl) (by kernel_rfl) (unhide HD _) hS0 (fun uw1 hS1 => ?_)
  clear hS0
  simp only [Act.put, List.setIfInBounds_toArray, List.set_cons_succ, List.set_cons_zero]
  refine hpure 2 (some 7) (.bool true) rfl (by kernel_rfl) (by kernel_rfl) (by kernel_rfl) (fun _ _ _ h => h) (by kernel_rfl) (by kernel_rfl) (fun _ => by kernel_rfl) hS1 ?_
  simp only [Act.put, List.setIfInBounds_toArray, List.set_cons_succ, List.set_cons_zero]
  refine hpure 3 (some 8) (.bool true) rfl (by kernel_rfl) (by kernel_rfl) (by kernel_rfl) (fun _ _ _ h => h) (by kernel_rfl) (by kernel_rfl) (fun _ => by kernel_rfl) hS1 ?_
  simp only [Act.put, List.setIfInBounds_toArray, List.set_cons_succ, List.set_cons_zero]
  refine hload27 4 1 (some 9) (x := .tmp 3) (b := w.heap.size + 1) (d := d) rfl (by kernel_rfl) (by kernel_rfl) (by kernel_rfl) (fun _ _ _ h => h) (by kernel_rfl) (by kernel_rfl) (by kernel_rfl) (by kernel_rfl) rfl hS1 ?_
  simp only [Act.put, List.setIfInBounds_toArray, List.set_cons_succ, List.set_cons_zero]
  refine hload27 6 0 (some 11) (x := .tmp 2) (b := w.heap.size) (d := n) rfl (by kernel_rfl) (by kernel_rfl) (by kernel_rfl) (fun _ _ _ h => h) (by kernel_rfl) (by kernel_rfl) (by kernel_rfl) (by kernel_rfl) rfl hS1 ?_
  simp only [Act.put, List.setIfInBounds_toArray, List.set_cons_succ, List.set_cons_zero]
  refine hcall 5 (some 10) rfl (by kernel_rfl) (by kernel_rfl) (by kernel_rfl) (by kernel_rfl) (unhide HD _) hS1 (fun uw2 hS2 => ?_)
  clear hS1
  simp only [Act.put, List.setIfInBounds_toArray, List.set_cons_succ, List.set_cons_zero]
  refine hcall 7 (some 12) rfl (by kernel_rfl) (by kernel_rfl) (by kernel_rfl) (by kernel_rfl) (unhide HN _) hS2 (fun uw3 hS3 => ?_)
  clear hS2
  simp only [Act.put, List.setIfInBounds_toArray, List.set_cons_succ, List.set_cons_zero]
  refine hpure 8 (some 13) (.bool false) rfl (by kernel_rfl) (by kernel_rfl) (by kernel_rfl) (fun _ _ _ h => h) (by kernel_rfl) (by kernel_rfl) (fun _ => by kernel_rfl) hS3 ?_
  simp only [Act.put, List.setIfInBounds_toArray, List.set_cons_succ, List.set_cons_zero]
  refine hpure 9 (some 14) (.bool false) rfl (by kernel_rfl) (by kernel_rfl) (by kernel_rfl) (fun _ _ _ h => h) (by kernel_rfl) (by kernel_rfl) (fun _ => by kernel_rfl) hS3 ?_
  simp only [Act.put, List.setIfInBounds_toArray, List.set_cons_succ, List.set_cons_zero]
  refine hpure 10 (some 4) (.bool false) rfl (by kernel_rfl) (by kernel_rfl) (by kernel_rfl) (fun _ _ _ h => h) (by kernel_rfl) (by kernel_rfl) (fun _ => by kernel_rfl) hS3 ?_
  simp only [Act.put, List.setIfInBounds_toArray, List.set_cons_succ, List.set_cons_zero]
  refine wpAnyH_done (by kernel_rfl) ?_ _
  try simp only [Act.put, List.setIfInBounds_toArray, List.set_cons_succ, List.set_cons_zero]
  replace LL := hide hS3
  clear hS3
  go_wp2_with fail
  go_ret
  exact ⟨rfl, (unhide LL).below⟩
set_option maxHeartbeats 2000000 in
set_option maxRecDepth 100000 in
theorem turns_01 (n d : DD) (hn : FD n) (hd : FD d) (h1 : shapeV d = 0) (h2 : shapeV n = 1) (w : World) : Calls Tryz.prog 145 #[n.agg, d.agg] w fun e w' => e = .returned (.bool (turnV n d)) ∧ Below w.heap.size w w' := by
  have HD := hide (shape_any d hd)
  have HN := hide (shape_any n hn)
  clear hn hd
  have LL := hide (Kp.of2 (Lie.new2 w (.D n) (.D d)))
  unfold turnV
  rw [h1, h2]
  rw [h1] at HD
  rw [h2] at HN
  have hq0 : n.agg = .agg #[.int .i64 n.v.k, .bool n.v.b, .float .f64 n.v.x, .string n.v.s, .int .i64 n.v.i, .int .i64 n.g.k, .bool n.g.b, .float .f64 n.g.x, .string n.g.s, .int .i64 n.g.i, .int .i64 n.s.k, .bool n.s.b, .float .f64 n.s.x, .string n.s.s, .int .i64 n.s.i, .int .i64 n.w, .int .i64 n.e, .int .i64 n.c] := rfl
  have hq1 : d.agg = .agg #[.int .i64 d.v.k, .bool d.v.b, .float .f64 d.v.x, .string d.v.s, .int .i64 d.v.i, .int .i64 d.g.k, .bool d.g.b, .float .f64 d.g.x, .string d.g.s, .int .i64 d.g.i, .int .i64 d.s.k, .bool d.s.b, .float .f64 d.s.x, .string d.s.s, .int .i64 d.s.i, .int .i64 d.w, .int .i64 d.e, .int .i64 d.c] := rfl
  rw [hq0, hq1]
  clear hq0 hq1
  go_enter Tryz.func145, Tryz.ntmps145
  go_wp2_with fail
  refine wp_region_held_drew (P := Tryz.prog) (S := fun X => Kp w X [(w.heap.size, .D n), (w.heap.size + 1, .D d)]) (by kernel_rfl) (Kp.drew (unhide LL)) (fun hS0 => ?_)
  refine hload27 0 1 (some 5) (x := .tmp 3) (b := w.heap.size + 1) (d := d) rfl (by kernel_rfl) (by kernel_rfl) (by kernel_rfl) (fun _ _ _ h => h) (by kernel_rfl) (by kernel_rfl) (by kernel_rfl) (by kernel_rfl) rfl hS0 ?_
  simp only [Act.put, List.setIfInBounds_toArray, List.set_cons_succ, List.set_cons_zero]
  refine hcall 1 (some 6) rfl (by kernel_rfl) (by kernel_rfl) (by kernel_rfl) (by kernel_rfl) (unhide HD _) hS0 (fun uw1 hS1 => ?_)
  clear hS0
  simp only [Act.put, List.setIfInBounds_toArray, List.set_cons_succ, List.set_cons_zero]
  refine hpure 2 (some 7) (.bool true) rfl (by kernel_rfl) (by kernel_rfl) (by kernel_rfl) (fun _ _ _ h => h) (by kernel_rfl) (by kernel_rfl) (fun _ => by kernel_rfl) hS1 ?_
  simp only [Act.put, List.setIfInBounds_toArray, List.set_cons_succ, List.set_cons_zero]
  refine hpure 3 (some 8) (.bool true) rfl (by kernel_rfl) (by kernel_rfl) (by kernel_rfl) (fun _ _ _ h => h) (by kernel_rfl) (by kernel_rfl) (fun _ => by kernel_rfl) hS1 ?_
  simp only [Act.put, List.setIfInBounds_toArray, List.set_cons_succ, List.set_cons_zero]
  refine hload27 4 1 (some 9) (x := .tmp 3) (b := w.heap.size + 1) (d := d) rfl (by kernel_rfl) (by kernel_rfl) (by kernel_rfl) (fun _ _ _ h => h) (by kernel_rfl) (by kernel_rfl) (by kernel_rfl) (by kernel_rfl) rfl hS1 ?_
  simp only [Act.put, List.setIfInBounds_toArray, List.set_cons_succ, List.set_cons_zero]
  refine hload27 6 0 (some 11) (x := .tmp 2) (b := w.heap.size) (d := n) rfl (by kernel_rfl) (by kernel_rfl) (by kernel_rfl) (fun _ _ _ h => h) (by kernel_rfl) (by kernel_rfl) (by kernel_rfl) (by kernel_rfl) rfl hS1 ?_
  simp only [Act.put, List.setIfInBounds_toArray, List.set_cons_succ, List.set_cons_zero]
  refine hcall 5 (some 10) rfl (by kernel_rfl) (by kernel_rfl) (by kernel_rfl) (by kernel_rfl) (unhide HD _) hS1 (fun uw2 hS2 => ?_)
  clear hS1
  simp only [Act.put, List.setIfInBounds_toArray, List.set_cons_succ, List.set_cons_zero]
  refine hcall 7 (some 12) rfl (by kernel_rfl) (by kernel_rfl) (by kernel_rfl) (by kernel_rfl) (unhide HN _) hS2 (fun uw3 hS3 => ?_)
  clear hS2
  simp only [Act.put, List.setIfInBounds_toArray, List.set_cons_succ, List.set_cons_zero]
  refine hpure 8 (some 13) (.bool true) rfl (by kernel_rfl) (by kernel_rfl) (by kernel_rfl) (fun _ _ _ h => h) (by kernel_rfl) (by kernel_rfl) (fun _ => by kernel_rfl) hS3 ?_
  simp only [Act.put, List.setIfInBounds_toArray, List.set_cons_succ, List.set_cons_zero]
  refine hpure 9 (some 14) (.bool true) rfl (by kernel_rfl) (by kernel_rfl) (by kernel_rfl) (fun _ _ _ h => h) (by kernel_rfl) (by kernel_rfl) (fun _ => by kernel_rfl) hS3 ?_
  simp only [Act.put, List.setIfInBounds_toArray, List.set_cons_succ, List.set_cons_zero]
  refine hpure 10 (some 4) (.bool true) rfl (by kernel_rfl) (by kernel_rfl) (by kernel_rfl) (fun _ _ _ h => h) (by kernel_rfl) (by kernel_rfl) (fun _ => by kernel_rfl) hS3 ?_
  simp only [Act.put, List.setIfInBounds_toArray, List.set_cons_succ, List.set_cons_zero]
  refine wpAnyH_done (by kernel_rfl) ?_ _
  try simp only [Act.put, List.setIfInBounds_toArray, List.set_cons_succ, List.set_cons_zero]
  replace LL := hide hS3
  clear hS3
  go_wp2_with fail
  go_ret
  exact ⟨rfl, (unhide LL).below⟩
set_option maxHeartbeats 2000000 in
set_option maxRecDepth 100000 in
theorem turns_02 (n d : DD) (hn : FD n) (hd : FD d) (h1 : shapeV d = 0) (h2 : shapeV n = 2) (w : World) : Calls Tryz.prog 145 #[n.agg, d.agg] w fun e w' => e = .returned (.bool (turnV n d)) ∧ Below w.heap.size w w' := by
  have HD := hide (shape_any d hd)
  have HN := hide (shape_any n hn)
  clear hn hd
  have LL := hide (Kp.of2 (Lie.new2 w (.D n) (.D d)))
  unfold turnV
  rw [h1, h2]
  rw [h1] at HD
  rw [h2] at HN
  have hq0 : n.agg = .agg #[.int .i64 n.v.k, .bool n.v.b, .float .f64 n.v.x, .string n.v.s, .int .i64 n.v.i, .int .i64 n.g.k, .bool n.g.b, .float .f64 n.g.x, .string n.g.s, .int .i64 n.g.i, .int .i64 n.s.k, .bool n.s.b, .float .f64 n.s.x, .string n.s.s, .int .i64 n.s.i, .int .i64 n.w, .int .i64 n.e, .int .i64 n.c] := rfl
  have hq1 : d.agg = .agg #[.int .i64 d.v.k, .bool d.v.b, .float .f64 d.v.x, .string d.v.s, .int .i64 d.v.i, .int .i64 d.g.k, .bool d.g.b, .float .f64 d.g.x, .string d.g.s, .int .i64 d.g.i, .int .i64 d.s.k, .bool d.s.b, .float .f64 d.s.x, .string d.s.s, .int .i64 d.s.i, .int .i64 d.w, .int .i64 d.e, .int .i64 d.c] := rfl
  rw [hq0, hq1]
  clear hq0 hq1
  go_enter Tryz.func145, Tryz.ntmps145
  go_wp2_with fail
  refine wp_region_held_drew (P := Tryz.prog) (S := fun X => Kp w X [(w.heap.size, .D n), (w.heap.size + 1, .D d)]) (by kernel_rfl) (Kp.drew (unhide LL)) (fun hS0 => ?_)
  refine hload27 0 1 (some 5) (x := .tmp 3) (b := w.heap.size + 1) (d := d) rfl (by kernel_rfl) (by kernel_rfl) (by kernel_rfl) (fun _ _ _ h => h) (by kernel_rfl) (by kernel_rfl) (by kernel_rfl) (by kernel_rfl) rfl hS0 ?_
  simp only [Act.put, List.setIfInBounds_toArray, List.set_cons_succ, List.set_cons_zero]
  refine hcall 1 (some 6) rfl (by kernel_rfl) (by kernel_rfl) (by kernel_rfl) (by kernel_rfl) (unhide HD _) hS0 (fun uw1 hS1 => ?_)
  clear hS0
  simp only [Act.put, List.setIfInBounds_toArray, List.set_cons_succ, List.set_cons_zero]
  refine hpure 2 (some 7) (.bool true) rfl (by kernel_rfl) (by kernel_rfl) (by kernel_rfl) (fun _ _ _ h => h) (by kernel_rfl) (by kernel_rfl) (fun _ => by kernel_rfl) hS1 ?_
  simp only [Act.put, List.setIfInBounds_toArray, List.set_cons_succ, List.set_cons_zero]
  refine hpure 3 (some 8) (.bool true) rfl (by kernel_rfl) (by kernel_rfl) (by kernel_rfl) (fun _ _ _ h => h) (by kernel_rfl) (by kernel_rfl) (fun _ => by kernel_rfl) hS1 ?_
  simp only [Act.put, List.setIfInBounds_toArray, List.set_cons_succ, List.set_cons_zero]
  refine hload27 4 1 (some 9) (x := .tmp 3) (b := w.heap.size + 1) (d := d) rfl (by kernel_rfl) (by kernel_rfl) (by kernel_rfl) (fun _ _ _ h => h) (by kernel_rfl) (by kernel_rfl) (by kernel_rfl) (by kernel_rfl) rfl hS1 ?_
  simp only [Act.put, List.setIfInBounds_toArray, List.set_cons_succ, List.set_cons_zero]
  refine hload27 6 0 (some 11) (x := .tmp 2) (b := w.heap.size) (d := n) rfl (by kernel_rfl) (by kernel_rfl) (by kernel_rfl) (fun _ _ _ h => h) (by kernel_rfl) (by kernel_rfl) (by kernel_rfl) (by kernel_rfl) rfl hS1 ?_
  simp only [Act.put, List.setIfInBounds_toArray, List.set_cons_succ, List.set_cons_zero]
  refine hcall 5 (some 10) rfl (by kernel_rfl) (by kernel_rfl) (by kernel_rfl) (by kernel_rfl) (unhide HD _) hS1 (fun uw2 hS2 => ?_)
  clear hS1
  simp only [Act.put, List.setIfInBounds_toArray, List.set_cons_succ, List.set_cons_zero]
  refine hcall 7 (some 12) rfl (by kernel_rfl) (by kernel_rfl) (by kernel_rfl) (by kernel_rfl) (unhide HN _) hS2 (fun uw3 hS3 => ?_)
  clear hS2
  simp only [Act.put, List.setIfInBounds_toArray, List.set_cons_succ, List.set_cons_zero]
  refine hpure 8 (some 13) (.bool true) rfl (by kernel_rfl) (by kernel_rfl) (by kernel_rfl) (fun _ _ _ h => h) (by kernel_rfl) (by kernel_rfl) (fun _ => by kernel_rfl) hS3 ?_
  simp only [Act.put, List.setIfInBounds_toArray, List.set_cons_succ, List.set_cons_zero]
  refine hpure 9 (some 14) (.bool true) rfl (by kernel_rfl) (by kernel_rfl) (by kernel_rfl) (fun _ _ _ h => h) (by kernel_rfl) (by kernel_rfl) (fun _ => by kernel_rfl) hS3 ?_
  simp only [Act.put, List.setIfInBounds_toArray, List.set_cons_succ, List.set_cons_zero]
  refine hpure 10 (some 4) (.bool true) rfl (by kernel_rfl) (by kernel_rfl) (by kernel_rfl) (fun _ _ _ h => h) (by kernel_rfl) (by kernel_rfl) (fun _ => by kernel_rfl) hS3 ?_
  simp only [Act.put, List.setIfInBounds_toArray, List.set_cons_succ, List.set_cons_zero]
  refine wpAnyH_done (by kernel_rfl) ?_ _
  try simp only [Act.put, List.setIfInBounds_toArray, List.set_cons_succ, List.set_cons_zero]
  replace LL := hide hS3
  clear hS3
  go_wp2_with fail
  go_ret
  exact ⟨rfl, (unhide LL).below⟩
set_option maxHeartbeats 2000000 in
set_option maxRecDepth 100000 in
theorem turns_03 (n d : DD) (hn : FD n) (hd : FD d) (h1 : shapeV d = 0) (h2 : shapeV n = 3) (w : World) : Calls Tryz.prog 145 #[n.agg, d.agg] w fun e w' => e = .returned (.bool (turnV n d)) ∧ Below w.heap.size w w' := by
  have HD := hide (shape_any d hd)
  have HN := hide (shape_any n hn)
  clear hn hd
  have LL := hide (Kp.of2 (Lie.new2 w (.D n) (.D d)))
  unfold turnV
  rw [h1, h2]
  rw [h1] at HD
  rw [h2] at HN
  have hq0 : n.agg = .agg #[.int .i64 n.v.k, .bool n.v.b, .float .f64 n.v.x, .string n.v.s, .int .i64 n.v.i, .int .i64 n.g.k, .bool n.g.b, .float .f64 n.g.x, .string n.g.s, .int .i64 n.g.i, .int .i64 n.s.k, .bool n.s.b, .float .f64 n.s.x, .string n.s.s, .int .i64 n.s.i, .int .i64 n.w, .int .i64 n.e, .int .i64 n.c] := rfl
  have hq1 : d.agg = .agg #[.int .i64 d.v.k, .bool d.v.b, .float .f64 d.v.x, .string d.v.s, .int .i64 d.v.i, .int .i64 d.g.k, .bool d.g.b, .float .f64 d.g.x, .string d.g.s, .int .i64 d.g.i, .int .i64 d.s.k, .bool d.s.b, .float .f64 d.s.x, .string d.s.s, .int .i64 d.s.i, .int .i64 d.w, .int .i64 d.e, .int .i64 d.c] := rfl
  rw [hq0, hq1]
  clear hq0 hq1
  go_enter Tryz.func145, Tryz.ntmps145
  go_wp2_with fail
  refine wp_region_held_drew (P := Tryz.prog) (S := fun X => Kp w X [(w.heap.size, .D n), (w.heap.size + 1, .D d)]) (by kernel_rfl) (Kp.drew (unhide LL)) (fun hS0 => ?_)
  refine hload27 0 1 (some 5) (x := .tmp 3) (b := w.heap.size + 1) (d := d) rfl (by kernel_rfl) (by kernel_rfl) (by kernel_rfl) (fun _ _ _ h => h) (by kernel_rfl) (by kernel_rfl) (by kernel_rfl) (by kernel_rfl) rfl hS0 ?_
  simp only [Act.put, List.setIfInBounds_toArray, List.set_cons_succ, List.set_cons_zero]
  refine hcall 1 (some 6) rfl (by kernel_rfl) (by kernel_rfl) (by kernel_rfl) (by kernel_rfl) (unhide HD _) hS0 (fun uw1 hS1 => ?_)
  clear hS0
  simp only [Act.put, List.setIfInBounds_toArray, List.set_cons_succ, List.set_cons_zero]
  refine hpure 2 (some 7) (.bool true) rfl (by kernel_rfl) (by kernel_rfl) (by kernel_rfl) (fun _ _ _ h => h) (by kernel_rfl) (by kernel_rfl) (fun _ => by kernel_rfl) hS1 ?_
  simp only [Act.put, List.setIfInBounds_toArray, List.set_cons_succ, List.set_cons_zero]
  refine hpure 3 (some 8) (.bool true) rfl (by kernel_rfl) (by kernel_rfl) (by kernel_rfl) (fun _ _ _ h => h) (by kernel_rfl) (by kernel_rfl) (fun _ => by kernel_rfl) hS1 ?_
  simp only [Act.put, List.setIfInBounds_toArray, List.set_cons_succ, List.set_cons_zero]
  refine hload27 4 1 (some 9) (x := .tmp 3) (b := w.heap.size + 1) (d := d) rfl (by kernel_rfl) (by kernel_rfl) (by kernel_rfl) (fun _ _ _ h => h) (by kernel_rfl) (by kernel_rfl) (by kernel_rfl) (by kernel_rfl) rfl hS1 ?_
  simp only [Act.put, List.setIfInBounds_toArray, List.set_cons_succ, List.set_cons_zero]
  refine hload27 6 0 (some 11) (x := .tmp 2) (b := w.heap.size) (d := n) rfl (by kernel_rfl) (by kernel_rfl) (by kernel_rfl) (fun _ _ _ h => h) (by kernel_rfl) (by kernel_rfl) (by kernel_rfl) (by kernel_rfl) rfl hS1 ?_
  simp only [Act.put, List.setIfInBounds_toArray, List.set_cons_succ, List.set_cons_zero]
  refine hcall 5 (some 10) rfl (by kernel_rfl) (by kernel_rfl) (by kernel_rfl) (by kernel_rfl) (unhide HD _) hS1 (fun uw2 hS2 => ?_)
  clear hS1
  simp only [Act.put, List.setIfInBounds_toArray, List.set_cons_succ, List.set_cons_zero]
  refine hcall 7 (some 12) rfl (by kernel_rfl) (by kernel_rfl) (by kernel_rfl) (by kernel_rfl) (unhide HN _) hS2 (fun uw3 hS3 => ?_)
  clear hS2
  simp only [Act.put, List.setIfInBounds_toArray, List.set_cons_succ, List.set_cons_zero]
  refine hpure 8 (some 13) (.bool true) rfl (by kernel_rfl) (by kernel_rfl) (by kernel_rfl) (fun _ _ _ h => h) (by kernel_rfl) (by kernel_rfl) (fun _ => by kernel_rfl) hS3 ?_
  simp only [Act.put, List.setIfInBounds_toArray, List.set_cons_succ, List.set_cons_zero]
  refine hpure 9 (some 14) (.bool true) rfl (by kernel_rfl) (by kernel_rfl) (by kernel_rfl) (fun _ _ _ h => h) (by kernel_rfl) (by kernel_rfl) (fun _ => by kernel_rfl) hS3 ?_
  simp only [Act.put, List.setIfInBounds_toArray, List.set_cons_succ, List.set_cons_zero]
  refine hpure 10 (some 4) (.bool true) rfl (by kernel_rfl) (by kernel_rfl) (by kernel_rfl) (fun _ _ _ h => h) (by kernel_rfl) (by kernel_rfl) (fun _ => by kernel_rfl) hS3 ?_
  simp only [Act.put, List.setIfInBounds_toArray, List.set_cons_succ, List.set_cons_zero]
  refine wpAnyH_done (by kernel_rfl) ?_ _
  try simp only [Act.put, List.setIfInBounds_toArray, List.set_cons_succ, List.set_cons_zero]
  replace LL := hide hS3
  clear hS3
  go_wp2_with fail
  go_ret
  exact ⟨rfl, (unhide LL).below⟩
set_option maxHeartbeats 2000000 in
set_option maxRecDepth 100000 in
theorem turns_1 (n d : DD) (hn : FD n) (hd : FD d) (h1 : shapeV d = 1) (w : World) : Calls Tryz.prog 145 #[n.agg, d.agg] w fun e w' => e = .returned (.bool (turnV n d)) ∧ Below w.heap.size w w' := by
  have HD := hide (shape_any d hd)
  have HN := hide (shape_any n hn)
  clear hn hd
  have LL := hide (Kp.of2 (Lie.new2 w (.D n) (.D d)))
  unfold turnV
  rw [h1]
  rw [h1] at HD
  have hq0 : n.agg = .agg #[.int .i64 n.v.k, .bool n.v.b, .float .f64 n.v.x, .string n.v.s, .int .i64 n.v.i, .int .i64 n.g.k, .bool n.g.b, .float .f64 n.g.x, .string n.g.s, .int .i64 n.g.i, .int .i64 n.s.k, .bool n.s.b, .float .f64 n.s.x, .string n.s.s, .int .i64 n.s.i, .int .i64 n.w, .int .i64 n.e, .int .i64 n.c] := rfl
  have hq1 : d.agg = .agg #[.int .i64 d.v.k, .bool d.v.b, .float .f64 d.v.x, .string d.v.s, .int .i64 d.v.i, .int .i64 d.g.k, .bool d.g.b, .float .f64 d.g.x, .string d.g.s, .int .i64 d.g.i, .int .i64 d.s.k, .bool d.s.b, .float .f64 d.s.x, .string d.s.s, .int .i64 d.s.i, .int .i64 d.w, .int .i64 d.e, .int .i64 d.c] := rfl
  rw [hq0, hq1]
  clear hq0 hq1
  go_enter Tryz.func145, Tryz.ntmps145
  go_wp2_with fail
  refine wp_region_held_drew (P := Tryz.prog) (S := fun X => Kp w X [(w.heap.size, .D n), (w.heap.size + 1, .D d)]) (by kernel_rfl) (Kp.drew (unhide LL)) (fun hS0 => ?_)
  refine hload27 0 1 (some 5) (x := .tmp 3) (b := w.heap.size + 1) (d := d) rfl (by kernel_rfl) (by kernel_rfl) (by kernel_rfl) (fun _ _ _ h => h) (by kernel_rfl) (by kernel_rfl) (by kernel_rfl) (by kernel_rfl) rfl hS0 ?_
  simp only [Act.put, List.setIfInBounds_toArray, List.set_cons_succ, List.set_cons_zero]
  refine hcall 1 (some 6) rfl (by kernel_rfl) (by kernel_rfl) (by kernel_rfl) (by kernel_rfl) (unhide HD _) hS0 (fun uw1 hS1 => ?_)
  clear hS0
  simp only [Act.put, List.setIfInBounds_toArray, List.set_cons_succ, List.set_cons_zero]
  refine hpure 2 (some 7) (.bool false) rfl (by kernel_rfl) (by kernel_rfl) (by kernel_rfl) (fun _ _ _ h => h) (by kernel_rfl) (by kernel_rfl) (fun _ => by kernel_rfl) hS1 ?_
  simp only [Act.put, List.setIfInBounds_toArray, List.set_cons_succ, List.set_cons_zero]
  refine hpure 3 (some 8) (.bool false) rfl (by kernel_rfl) (by kernel_rfl) (by kernel_rfl) (fun _ _ _ h => h) (by kernel_rfl) (by kernel_rfl) (fun _ => by kernel_rfl) hS1 ?_
  simp only [Act.put, List.setIfInBounds_toArray, List.set_cons_succ, List.set_cons_zero]
  refine hskip 4 (some 9) rfl (by kernel_rfl) (by kernel_rfl) (by kernel_rfl) (fun _ _ _ h => h) (by kernel_rfl) (by kernel_rfl) hS1 ?_
  simp only [Act.put, List.setIfInBounds_toArray, List.set_cons_succ, List.set_cons_zero]
  refine hskip 5 (some 10) rfl (by kernel_rfl) (by kernel_rfl) (by kernel_rfl) (fun _ _ _ h => h) (by kernel_rfl) (by kernel_rfl) hS1 ?_
  simp only [Act.put, List.setIfInBounds_toArray, List.set_cons_succ, List.set_cons_zero]
  refine hskip 6 (some 11) rfl (by kernel_rfl) (by kernel_rfl) (by kernel_rfl) (fun _ _ _ h => h) (by kernel_rfl) (by kernel_rfl) hS1 ?_
  simp only [Act.put, List.setIfInBounds_toArray, List.set_cons_succ, List.set_cons_zero]
  refine hskip 7 (some 12) rfl (by kernel_rfl) (by kernel_rfl) (by kernel_rfl) (fun _ _ _ h => h) (by kernel_rfl) (by kernel_rfl) hS1 ?_
  simp only [Act.put, List.setIfInBounds_toArray, List.set_cons_succ, List.set_cons_zero]
  refine hskip 8 (some 13) rfl (by kernel_rfl) (by kernel_rfl) (by kernel_rfl) (fun _ _ _ h => h) (by kernel_rfl) (by kernel_rfl) hS1 ?_
  simp only [Act.put, List.setIfInBounds_toArray, List.set_cons_succ, List.set_cons_zero]
  refine hpure 9 (some 14) (.bool false) rfl (by kernel_rfl) (by kernel_rfl) (by kernel_rfl) (fun _ _ _ h => h) (by kernel_rfl) (by kernel_rfl) (fun _ => by kernel_rfl) hS1 ?_
  simp only [Act.put, List.setIfInBounds_toArray, List.set_cons_succ, List.set_cons_zero]
  refine hpure 10 (some 4) (.bool false) rfl (by kernel_rfl) (by kernel_rfl) (by kernel_rfl) (fun _ _ _ h => h) (by kernel_rfl) (by kernel_rfl) (fun _ => by kernel_rfl) hS1 ?_
  simp only [Act.put, List.setIfInBounds_toArray, List.set_cons_succ, List.set_cons_zero]
  refine wpAnyH_done (by kernel_rfl) ?_ _
  try simp only [Act.put, List.setIfInBounds_toArray, List.set_cons_succ, List.set_cons_zero]
  replace LL := hide hS1
  clear hS1
  go_wp2_with fail
  go_ret
  exact ⟨rfl, (unhide LL).below⟩
set_option maxHeartbeats 2000000 in
set_option maxRecDepth 100000 in
theorem turns_20 (n d : DD) (hn : FD n) (hd : FD d) (h1 : shapeV d = 2) (h2 : shapeV n = 0) (w : World) : Calls Tryz.prog 145 #[n.agg, d.agg] w fun e w' => e = .returned (.bool (turnV n d)) ∧ Below w.heap.size w w' := by
  have HD := hide (shape_any d hd)
  have HN := hide (shape_any n hn)
  clear hn hd
  have LL := hide (Kp.of2 (Lie.new2 w (.D n) (.D d)))
  unfold turnV
  rw [h1, h2]
  rw [h1] at HD
  rw [h2] at HN
  have hq0 : n.agg = .agg #[.int .i64 n.v.k, .bool n.v.b, .float .f64 n.v.x, .string n.v.s, .int .i64 n.v.i, .int .i64 n.g.k, .bool n.g.b, .float .f64 n.g.x, .string n.g.s, .int .i64 n.g.i, .int .i64 n.s.k, .bool n.s.b, .float .f64 n.s.x, .string n.s.s, .int .i64 n.s.i, .int .i64 n.w, .int .i64 n.e, .int .i64 n.c] := rfl
  have hq1 : d.agg = .agg #[.int .i64 d.v.k, .bool d.v.b, .float .f64 d.v.x, .string d.v.s, .int .i64 d.v.i, .int .i64 d.g.k, .bool d.g.b, .float .f64 d.g.x, .string d.g.s, .int .i64 d.g.i, .int .i64 d.s.k, .bool d.s.b, .float .f64 d.s.x, .string d.s.s, .int .i64 d.s.i, .int .i64 d.w, .int .i64 d.e, .int .i64 d.c] := rfl
  rw [hq0, hq1]
  clear hq0 hq1
  go_enter Tryz.func145, Tryz.ntmps145
  go_wp2_with fail
  refine wp_region_held_drew (P := Tryz.prog) (S := fun X => Kp w X [(w.heap.size, .D n), (w.heap.size + 1, .D d)]) (by kernel_rfl) (Kp.drew (unhide LL)) (fun hS0 => ?_)
  refine hload27 0 1 (some 5) (x := .tmp 3) (b := w.heap.size + 1) (d := d) rfl (by kernel_rfl) (by kernel_rfl) (by kernel_rfl) (fun _ _ _ h => h) (by kernel_rfl) (by kernel_rfl) (by kernel_rfl) (by kernel_rfl) rfl hS0 ?_
  simp only [Act.put, List.setIfInBounds_toArray, List.set_cons_succ, List.set_cons_zero]
  refine hcall 1 (some 6) rfl (by kernel_rfl) (by kernel_rfl) (by kernel_rfl) (by kernel_rfl) (unhide HD _) hS0 (fun uw1 hS1 => ?_)
  clear hS0
  simp only [Act.put, List.setIfInBounds_toArray, List.set_cons_succ, List.set_cons_zero]
  refine hpure 2 (some 7) (.bool true) rfl (by kernel_rfl) (by kernel_rfl) (by kernel_rfl) (fun _ _ _ h => h) (by kernel_rfl) (by kernel_rfl) (fun _ => by kernel_rfl) hS1 ?_
  simp only [Act.put, List.setIfInBounds_toArray, List.set_cons_succ, List.set_cons_zero]
  refine hpure 3 (some 8) (.bool true) rfl (by kernel_rfl) (by kernel_rfl) (by kernel_rfl) (fun _ _ _ h => h) (by kernel_rfl) (by kernel_rfl) (fun _ => by kernel_rfl) hS1 ?_
  simp only [Act.put, List.setIfInBounds_toArray, List.set_cons_succ, List.set_cons_zero]
  refine hload27 4 1 (some 9) (x := .tmp 3) (b := w.heap.size + 1) (d := d) rfl (by kernel_rfl) (by kernel_rfl) (by kernel_rfl) (fun _ _ _ h => h) (by kernel_rfl) (by kernel_rfl) (by kernel_rfl) (by kernel_rfl) rfl hS1 ?_
  simp only [Act.put, List.setIfInBounds_toArray, List.set_cons_succ, List.set_cons_zero]
  refine hload27 6 0 (some 11) (x := .tmp 2) (b := w.heap.size) (d := n) rfl (by kernel_rfl) (by kernel_rfl) (by kernel_rfl) (fun _ _ _ h => h) (by kernel_rfl) (by kernel_rfl) (by kernel_rfl) (by kernel_rfl) rfl hS1 ?_
  simp only [Act.put, List.setIfInBounds_toArray, List.set_cons_succ, List.set_cons_zero]
  refine hcall 5 (some 10) rfl (by kernel_rfl) (by kernel_rfl) (by kernel_rfl) (by kernel_rfl) (unhide HD _) hS1 (fun uw2 hS2 => ?_)
  clear hS1
  simp only [Act.put, List.setIfInBounds_toArray, List.set_cons_succ, List.set_cons_zero]
  refine hcall 7 (some 12) rfl (by kernel_rfl) (by kernel_rfl) (by kernel_rfl) (by kernel_rfl) (unhide HN _) hS2 (fun uw3 hS3 => ?_)
  clear hS2
  simp only [Act.put, List.setIfInBounds_toArray, List.set_cons_succ, List.set_cons_zero]
  refine hpure 8 (some 13) (.bool true) rfl (by kernel_rfl) (by kernel_rfl) (by kernel_rfl) (fun _ _ _ h => h) (by kernel_rfl) (by kernel_rfl) (fun _ => by kernel_rfl) hS3 ?_
  simp only [Act.put, List.setIfInBounds_toArray, List.set_cons_succ, List.set_cons_zero]
  refine hpure 9 (some 14) (.bool true) rfl (by kernel_rfl) (by kernel_rfl) (by kernel_rfl) (fun _ _ _ h => h) (by kernel_rfl) (by kernel_rfl) (fun _ => by kernel_rfl) hS3 ?_
  simp only [Act.put, List.setIfInBounds_toArray, List.set_cons_succ, List.set_cons_zero]
  refine hpure 10 (some 4) (.bool true) rfl (by kernel_rfl) (by kernel_rfl) (by kernel_rfl) (fun _ _ _ h => h) (by kernel_rfl) (by kernel_rfl) (fun _ => by kernel_rfl) hS3 ?_
  simp only [Act.put, List.setIfInBounds_toArray, List.set_cons_succ, List.set_cons_zero]
  refine wpAnyH_done (by kernel_rfl) ?_ _
  try simp only [Act.put, List.setIfInBounds_toArray, List.set_cons_succ, List.set_cons_zero]
  replace LL := hide hS3
  clear hS3
  go_wp2_with fail
  go_ret
  exact ⟨rfl, (unhide LL).below⟩
set_option maxHeartbeats 2000000 in
set_option maxRecDepth 100000 in
theorem turns_21 (n d : DD) (hn : FD n) (hd : FD d) (h1 : shapeV d = 2) (h2 : shapeV n = 1) (w : World) : Calls Tryz.prog 145 #[n.agg, d.agg] w fun e w' => e = .returned (.bool (turnV n d)) ∧ Below w.heap.size w w' := by
  have HD := hide (shape_any d hd)
  have HN := hide (shape_any n hn)
  clear hn hd
  have LL := hide (Kp.of2 (Lie.new2 w (.D n) (.D d)))
  unfold turnV
  rw [h1, h2]
  rw [h1] at HD
  rw [h2] at HN
  have hq0 : n.agg = .agg #[.int .i64 n.v.k, .bool n.v.b, .float .f64 n.v.x, .string n.v.s, .int .i64 n.v.i, .int .i64 n.g.k, .bool n.g.b, .float .f64 n.g.x, .string n.g.s, .int .i64 n.g.i, .int .i64 n.s.k, .bool n.s.b, .float .f64 n.s.x, .string n.s.s, .int .i64 n.s.i, .int .i64 n.w, .int .i64 n.e, .int .i64 n.c] := rfl
  have hq1 : d.agg = .agg #[.int .i64 d.v.k, .bool d.v.b, .float .f64 d.v.x, .string d.v.s, .int .i64 d.v.i, .int .i64 d.g.k, .bool d.g.b, .float .f64 d.g.x, .string d.g.s, .int .i64 d.g.i, .int .i64 d.s.k, .bool d.s.b, .float .f64 d.s.x, .string d.s.s, .int .i64 d.s.i, .int .i64 d.w, .int .i64 d.e, .int .i64 d.c] := rfl
  rw [hq0, hq1]
  clear hq0 hq1
  go_enter Tryz.func145, Tryz.ntmps145
  go_wp2_with fail
  refine wp_region_held_drew (P := Tryz.prog) (S := fun X => Kp w X [(w.heap.size, .D n), (w.heap.size + 1, .D d)]) (by kernel_rfl) (Kp.drew (unhide LL)) (fun hS0 => ?_)
  refine hload27 0 1 (some 5) (x := .tmp 3) (b := w.heap.size + 1) (d := d) rfl (by kernel_rfl) (by kernel_rfl) (by kernel_rfl) (fun _ _ _ h => h) (by kernel_rfl) (by kernel_rfl) (by kernel_rfl) (by kernel_rfl) rfl hS0 ?_
  simp only [Act.put, List.setIfInBounds_toArray, List.set_cons_succ, List.set_cons_zero]
  refine hcall 1 (some 6) rfl (by kernel_rfl) (by kernel_rfl) (by kernel_rfl) (by kernel_rfl) (unhide HD _) hS0 (fun uw1 hS1 => ?_)
  clear hS0
  simp only [Act.put, List.setIfInBounds_toArray, List.set_cons_succ, List.set_cons_zero]
  refine hpure 2 (some 7) (.bool true) rfl (by kernel_rfl) (by kernel_rfl) (by kernel_rfl) (fun _ _ _ h => h) (by kernel_rfl) (by kernel_rfl) (fun _ => by kernel_rfl) hS1 ?_
  simp only [Act.put, List.setIfInBounds_toArray, List.set_cons_succ, List.set_cons_zero]
  refine hpure 3 (some 8) (.bool true) rfl (by kernel_rfl) (by kernel_rfl) (by kernel_rfl) (fun _ _ _ h => h) (by kernel_rfl) (by kernel_rfl) (fun _ => by kernel_rfl) hS1 ?_
  simp only [Act.put, List.setIfInBounds_toArray, List.set_cons_succ, List.set_cons_zero]
  refine hload27 4 1 (some 9) (x := .tmp 3) (b := w.heap.size + 1) (d := d) rfl (by kernel_rfl) (by kernel_rfl) (by kernel_rfl) (fun _ _ _ h => h) (by kernel_rfl) (by kernel_rfl) (by kernel_rfl) (by kernel_rfl) rfl hS1 ?_
  simp only [Act.put, List.setIfInBounds_toArray, List.set_cons_succ, List.set_cons_zero]
  refine hload27 6 0 (some 11) (x := .tmp 2) (b := w.heap.size) (d := n) rfl (by kernel_rfl) (by kernel_rfl) (by kernel_rfl) (fun _ _ _ h => h) (by kernel_rfl) (by kernel_rfl) (by kernel_rfl) (by kernel_rfl) rfl hS1 ?_
  simp only [Act.put, List.setIfInBounds_toArray, List.set_cons_succ, List.set_cons_zero]
  refine hcall 5 (some 10) rfl (by kernel_rfl) (by kernel_rfl) (by kernel_rfl) (by kernel_rfl) (unhide HD _) hS1 (fun uw2 hS2 => ?_)
  clear hS1
  simp only [Act.put, List.setIfInBounds_toArray, List.set_cons_succ, List.set_cons_zero]
  refine hcall 7 (some 12) rfl (by kernel_rfl) (by kernel_rfl) (by kernel_rfl) (by kernel_rfl) (unhide HN _) hS2 (fun uw3 hS3 => ?_)
  clear hS2
  simp only [Act.put, List.setIfInBounds_toArray, List.set_cons_succ, List.set_cons_zero]
  refine hpure 8 (some 13) (.bool true) rfl (by kernel_rfl) (by kernel_rfl) (by kernel_rfl) (fun _ _ _ h => h) (by kernel_rfl) (by kernel_rfl) (fun _ => by kernel_rfl) hS3 ?_
  simp only [Act.put, List.setIfInBounds_toArray, List.set_cons_succ, List.set_cons_zero]
  refine hpure 9 (some 14) (.bool true) rfl (by kernel_rfl) (by kernel_rfl) (by kernel_rfl) (fun _ _ _ h => h) (by kernel_rfl) (by kernel_rfl) (fun _ => by kernel_rfl) hS3 ?_
  simp only [Act.put, List.setIfInBounds_toArray, List.set_cons_succ, List.set_cons_zero]
  refine hpure 10 (some 4) (.bool true) rfl (by kernel_rfl) (by kernel_rfl) (by kernel_rfl) (fun _ _ _ h => h) (by kernel_rfl) (by kernel_rfl) (fun _ => by kernel_rfl) hS3 ?_
  simp only [Act.put, List.setIfInBounds_toArray, List.set_cons_succ, List.set_cons_zero]
  refine wpAnyH_done (by kernel_rfl) ?_ _
  try simp only [Act.put, List.setIfInBounds_toArray, List.set_cons_succ, List.set_cons_zero]
  replace LL := hide hS3
  clear hS3
  go_wp2_with fail
  go_ret
  exact ⟨rfl, (unhide LL).below⟩
set_option maxHeartbeats 2000000 in
set_option maxRecDepth 100000 in
theorem turns_22 (n d : DD) (hn : FD n) (hd : FD d) (h1 : shapeV d = 2) (h2 : shapeV n = 2) (w : World) : Calls Tryz.prog 145 #[n.agg, d.agg] w fun e w' => e = .returned (.bool (turnV n d)) ∧ Below w.heap.size w w' := by
  have HD := hide (shape_any d hd)
  have HN := hide (shape_any n hn)
  clear hn hd
  have LL := hide (Kp.of2 (Lie.new2 w (.D n) (.D d)))
  unfold turnV
  rw [h1, h2]
  rw [h1] at HD
  rw [h2] at HN
  have hq0 : n.agg = .agg #[.int .i64 n.v.k, .bool n.v.b, .float .f64 n.v.x, .string n.v.s, .int .i64 n.v.i, .int .i64 n.g.k, .bool n.g.b, .float .f64 n.g.x, .string n.g.s, .int .i64 n.g.i, .int .i64 n.s.k, .bool n.s.b, .float .f64 n.s.x, .string n.s.s, .int .i64 n.s.i, .int .i64 n.w, .int .i64 n.e, .int .i64 n.c] := rfl
  have hq1 : d.agg = .agg #[.int .i64 d.v.k, .bool d.v.b, .float .f64 d.v.x, .string d.v.s, .int .i64 d.v.i, .int .i64 d.g.k, .bool d.g.b, .float .f64 d.g.x, .string d.g.s, .int .i64 d.g.i, .int .i64 d.s.k, .bool d.s.b, .float .f64 d.s.x, .string d.s.s, .int .i64 d.s.i, .int .i64 d.w, .int .i64 d.e, .int .i64 d.c] := rfl
  rw [hq0, hq1]
  clear hq0 hq1
  go_enter Tryz.func145, Tryz.ntmps145
  go_wp2_with fail
  refine wp_region_held_drew (P := Tryz.prog) (S := fun X => Kp w X [(w.heap.size, .D n), (w.heap.size + 1, .D d)]) (by kernel_rfl) (Kp.drew (unhide LL)) (fun hS0 => ?_)
  refine hload27 0 1 (some 5) (x := .tmp 3) (b := w.heap.size + 1) (d := d) rfl (by kernel_rfl) (by kernel_rfl) (by kernel_rfl) (fun _ _ _ h => h) (by kernel_rfl) (by kernel_rfl) (by kernel_rfl) (by kernel_rfl) rfl hS0 ?_
  simp only [Act.put, List.setIfInBounds_toArray, List.set_cons_succ, List.set_cons_zero]
  refine hcall 1 (some 6) rfl (by kernel_rfl) (by kernel_rfl) (by kernel_rfl) (by kernel_rfl) (unhide HD _) hS0 (fun uw1 hS1 => ?_)
  clear hS0
  simp only [Act.put, List.setIfInBounds_toArray, List.set_cons_succ, List.set_cons_zero]
  refine hpure 2 (some 7) (.bool true) rfl (by kernel_rfl) (by kernel_rfl) (by kernel_rfl) (fun _ _ _ h => h) (by kernel_rfl) (by kernel_rfl) (fun _ => by kernel_rfl) hS1 ?_
  simp only [Act.put, List.setIfInBounds_toArray, List.set_cons_succ, List.set_cons_zero]
  refine hpure 3 (some 8) (.bool true) rfl (by kernel_rfl) (by kernel_rfl) (by kernel_rfl) (fun _ _ _ h => h) (by kernel_rfl) (by kernel_rfl) (fun _ => by kernel_rfl) hS1 ?_
  simp only [Act.put, List.setIfInBounds_toArray, List.set_cons_succ, List.set_cons_zero]
  refine hload27 4 1 (some 9) (x := .tmp 3) (b := w.heap.size + 1) (d := d) rfl (by kernel_rfl) (by kernel_rfl) (by kernel_rfl) (fun _ _ _ h => h) (by kernel_rfl) (by kernel_rfl) (by kernel_rfl) (by kernel_rfl) rfl hS1 ?_
  simp only [Act.put, List.setIfInBounds_toArray, List.set_cons_succ, List.set_cons_zero]
  refine hload27 6 0 (some 11) (x := .tmp 2) (b := w.heap.size) (d := n) rfl (by kernel_rfl) (by kernel_rfl) (by kernel_rfl) (fun _ _ _ h => h) (by kernel_rfl) (by kernel_rfl) (by kernel_rfl) (by kernel_rfl) rfl hS1 ?_
  simp only [Act.put, List.setIfInBounds_toArray, List.set_cons_succ, List.set_cons_zero]
  refine hcall 5 (some 10) rfl (by kernel_rfl) (by kernel_rfl) (by kernel_rfl) (by kernel_rfl) (unhide HD _) hS1 (fun uw2 hS2 => ?_)
  clear hS1
  simp only [Act.put, List.setIfInBounds_toArray, List.set_cons_succ, List.set_cons_zero]
  refine hcall 7 (some 12) rfl (by kernel_rfl) (by kernel_rfl) (by kernel_rfl) (by kernel_rfl) (unhide HN _) hS2 (fun uw3 hS3 => ?_)
  clear hS2
  simp only [Act.put, List.setIfInBounds_toArray, List.set_cons_succ, List.set_cons_zero]
  refine hpure 8 (some 13) (.bool false) rfl (by kernel_rfl) (by kernel_rfl) (by kernel_rfl) (fun _ _ _ h => h) (by kernel_rfl) (by kernel_rfl) (fun _ => by kernel_rfl) hS3 ?_
  simp only [Act.put, List.setIfInBounds_toArray, List.set_cons_succ, List.set_cons_zero]
  refine hpure 9 (some 14) (.bool false) rfl (by kernel_rfl) (by kernel_rfl) (by kernel_rfl) (fun _ _ _ h => h) (by kernel_rfl) (by kernel_rfl) (fun _ => by kernel_rfl) hS3 ?_
  simp only [Act.put, List.setIfInBounds_toArray, List.set_cons_succ, List.set_cons_zero]
  refine hpure 10 (some 4) (.bool false) rfl (by kernel_rfl) (by kernel_rfl) (by kernel_rfl) (fun _ _ _ h => h) (by kernel_rfl) (by kernel_rfl) (fun _ => by kernel_rfl) hS3 ?_
  simp only [Act.put, List.setIfInBounds_toArray, List.set_cons_succ, List.set_cons_zero]
  refine wpAnyH_done (by kernel_rfl) ?_ _
  try simp only [Act.put, List.setIfInBounds_toArray, List.set_cons_succ, List.set_cons_zero]
  replace LL := hide hS3
  clear hS3
  go_wp2_with fail
  go_ret
  exact ⟨rfl, (unhide LL).below⟩
set_option maxHeartbeats 2000000 in
set_option maxRecDepth 100000 in
theorem turns_23 (n d : DD) (hn : FD n) (hd : FD d) (h1 : shapeV d = 2) (h2 : shapeV n = 3) (w : World) : Calls Tryz.prog 145 #[n.agg, d.agg] w fun e w' => e = .returned (.bool (turnV n d)) ∧ Below w.heap.size w w' := by
  have HD := hide (shape_any d hd)
  have HN := hide (shape_any n hn)
  clear hn hd
  have LL := hide (Kp.of2 (Lie.new2 w (.D n) (.D d)))
  unfold turnV
  rw [h1, h2]
  rw [h1] at HD
  rw [h2] at HN
  have hq0 : n.agg = .agg #[.int .i64 n.v.k, .bool n.v.b, .float .f64 n.v.x, .string n.v.s, .int .i64 n.v.i, .int .i64 n.g.k, .bool n.g.b, .float .f64 n.g.x, .string n.g.s, .int .i64 n.g.i, .int .i64 n.s.k, .bool n.s.b, .float .f64 n.s.x, .string n.s.s, .int .i64 n.s.i, .int .i64 n.w, .int .i64 n.e, .int .i64 n.c] := rfl
  have hq1 : d.agg = .agg #[.int .i64 d.v.k, .bool d.v.b, .float .f64 d.v.x, .string d.v.s, .int .i64 d.v.i, .int .i64 d.g.k, .bool d.g.b, .float .f64 d.g.x, .string d.g.s, .int .i64 d.g.i, .int .i64 d.s.k, .bool d.s.b, .float .f64 d.s.x, .string d.s.s, .int .i64 d.s.i, .int .i64 d.w, .int .i64 d.e, .int .i64 d.c] := rfl
  rw [hq0, hq1]
  clear hq0 hq1
  go_enter Tryz.func145, Tryz.ntmps145
  go_wp2_with fail
  refine wp_region_held_drew (P := Tryz.prog) (S := fun X => Kp w X [(w.heap.size, .D n), (w.heap.size + 1, .D d)]) (by kernel_rfl) (Kp.drew (unhide LL)) (fun hS0 => ?_)
  refine hload27 0 1 (some 5) (x := .tmp 3) (b := w.heap.size + 1) (d := d) rfl (by kernel_rfl) (by kernel_rfl) (by kernel_rfl) (fun _ _ _ h => h) (by kernel_rfl) (by kernel_rfl) (by kernel_rfl) (by kernel_rfl) rfl hS0 ?_
  simp only [Act.put, List.setIfInBounds_toArray, List.set_cons_succ, List.set_cons_zero]
  refine hcall 1 (some 6) rfl (by kernel_rfl) (by kernel_rfl) (by kernel_rfl) (by kernel_rfl) (unhide HD _) hS0 (fun uw1 hS1 => ?_)
  clear hS0
  simp only [Act.put, List.setIfInBounds_toArray, List.set_cons_succ, List.set_cons_zero]
  refine hpure 2 (some 7) (.bool true) rfl (by kernel_rfl) (by kernel_rfl) (by kernel_rfl) (fun _ _ _ h => h) (by kernel_rfl) (by kernel_rfl) (fun _ => by kernel_rfl) hS1 ?_
  simp only [Act.put, List.setIfInBounds_toArray, List.set_cons_succ, List.set_cons_zero]
  refine hpure 3 (some 8) (.bool true) rfl (by kernel_rfl) (by kernel_rfl) (by kernel_rfl) (fun _ _ _ h => h) (by kernel_rfl) (by kernel_rfl) (fun _ => by kernel_rfl) hS1 ?_
  simp only [Act.put, List.setIfInBounds_toArray, List.set_cons_succ, List.set_cons_zero]
  refine hload27 4 1 (some 9) (x := .tmp 3) (b := w.heap.size + 1) (d := d) rfl (by kernel_rfl) (by kernel_rfl) (by kernel_rfl) (fun _ _ _ h => h) (by kernel_rfl) (by kernel_rfl) (by kernel_rfl) (by kernel_rfl) rfl hS1 ?_
  simp only [Act.put, List.setIfInBounds_toArray, List.set_cons_succ, List.set_cons_zero]
  refine hload27 6 0 (some 11) (x := .tmp 2) (b := w.heap.size) (d := n) rfl (by kernel_rfl) (by kernel_rfl) (by kernel_rfl) (fun _ _ _ h => h) (by kernel_rfl) (by kernel_rfl) (by kernel_rfl) (by kernel_rfl) rfl hS1 ?_
  simp only [Act.put, List.setIfInBounds_toArray, List.set_cons_succ, List.set_cons_zero]
  refine hcall 5 (some 10) rfl (by kernel_rfl) (by kernel_rfl) (by kernel_rfl) (by kernel_rfl) (unhide HD _) hS1 (fun uw2 hS2 => ?_)
  clear hS1
  simp only [Act.put, List.setIfInBounds_toArray, List.set_cons_succ, List.set_cons_zero]
  refine hcall 7 (some 12) rfl (by kernel_rfl) (by kernel_rfl) (by kernel_rfl) (by kernel_rfl) (unhide HN _) hS2 (fun uw3 hS3 => ?_)
  clear hS2
  simp only [Act.put, List.setIfInBounds_toArray, List.set_cons_succ, List.set_cons_zero]
  refine hpure 8 (some 13) (.bool true) rfl (by kernel_rfl) (by kernel_rfl) (by kernel_rfl) (fun _ _ _ h => h) (by kernel_rfl) (by kernel_rfl) (fun _ => by kernel_rfl) hS3 ?_
  simp only [Act.put, List.setIfInBounds_toArray, List.set_cons_succ, List.set_cons_zero]
  refine hpure 9 (some 14) (.bool true) rfl (by kernel_rfl) (by kernel_rfl) (by kernel_rfl) (fun _ _ _ h => h) (by kernel_rfl) (by kernel_rfl) (fun _ => by kernel_rfl) hS3 ?_
  simp only [Act.put, List.setIfInBounds_toArray, List.set_cons_succ, List.set_cons_zero]
  refine hpure 10 (some 4) (.bool true) rfl (by kernel_rfl) (by kernel_rfl) (by kernel_rfl) (fun _ _ _ h => h) (by kernel_rfl) (by kernel_rfl) (fun _ => by kernel_rfl) hS3 ?_
  simp only [Act.put, List.setIfInBounds_toArray, List.set_cons_succ, List.set_cons_zero]
  refine wpAnyH_done (by kernel_rfl) ?_ _
  try simp only [Act.put, List.setIfInBounds_toArray, List.set_cons_succ, List.set_cons_zero]
  replace LL := hide hS3
  clear hS3
  go_wp2_with fail
  go_ret
  exact ⟨rfl, (unhide LL).below⟩
set_option maxHeartbeats 2000000 in
set_option maxRecDepth 100000 in
theorem turns_30 (n d : DD) (hn : FD n) (hd : FD d) (h1 : shapeV d = 3) (h2 : shapeV n = 0) (w : World) : Calls Tryz.prog 145 #[n.agg, d.agg] w fun e w' => e = .returned (.bool (turnV n d)) ∧ Below w.heap.size w w' := by
  have HD := hide (shape_any d hd)
  have HN := hide (shape_any n hn)
  clear hn hd
  have LL := hide (Kp.of2 (Lie.new2 w (.D n) (.D d)))
  unfold turnV
  rw [h1, h2]
  rw [h1] at HD
  rw [h2] at HN
  have hq0 : n.agg = .agg #[.int .i64 n.v.k, .bool n.v.b, .float .f64 n.v.x, .string n.v.s, .int .i64 n.v.i, .int .i64 n.g.k, .bool n.g.b, .float .f64 n.g.x, .string n.g.s, .int .i64 n.g.i, .int .i64 n.s.k, .bool n.s.b, .float .f64 n.s.x, .string n.s.s, .int .i64 n.s.i, .int .i64 n.w, .int .i64 n.e, .int .i64 n.c] := rfl
  have hq1 : d.agg = .agg #[.int .i64 d.v.k, .bool d.v.b, .float .f64 d.v.x, .string d.v.s, .int .i64 d.v.i, .int .i64 d.g.k, .bool d.g.b, .float .f64 d.g.x, .string d.g.s, .int .i64 d.g.i, .int .i64 d.s.k, .bool d.s.b, .float .f64 d.s.x, .string d.s.s, .int .i64 d.s.i, .int .i64 d.w, .int .i64 d.e, .int .i64 d.c] := rfl
  rw [hq0, hq1]
  clear hq0 hq1
  go_enter Tryz.func145, Tryz.ntmps145
  go_wp2_with fail
  refine wp_region_held_drew (P := Tryz.prog) (S := fun X => Kp w X [(w.heap.size, .D n), (w.heap.size + 1, .D d)]) (by kernel_rfl) (Kp.drew (unhide LL)) (fun hS0 => ?_)
  refine hload27 0 1 (some 5) (x := .tmp 3) (b := w.heap.size + 1) (d := d) rfl (by kernel_rfl) (by kernel_rfl) (by kernel_rfl) (fun _ _ _ h => h) (by kernel_rfl) (by kernel_rfl) (by kernel_rfl) (by kernel_rfl) rfl hS0 ?_
  simp only [Act.put, List.setIfInBounds_toArray, List.set_cons_succ, List.set_cons_zero]
  refine hcall 1 (some 6) rfl (by kernel_rfl) (by kernel_rfl) (by kernel_rfl) (by kernel_rfl) (unhide HD _) hS0 (fun uw1 hS1 => ?_)
  clear hS0
  simp only [Act.put, List.setIfInBounds_toArray, List.set_cons_succ, List.set_cons_zero]
  refine hpure 2 (some 7) (.bool true) rfl (by kernel_rfl) (by kernel_rfl) (by kernel_rfl) (fun _ _ _ h => h) (by kernel_rfl) (by kernel_rfl) (fun _ => by kernel_rfl) hS1 ?_
  simp only [Act.put, List.setIfInBounds_toArray, List.set_cons_succ, List.set_cons_zero]
  refine hpure 3 (some 8) (.bool true) rfl (by kernel_rfl) (by kernel_rfl) (by kernel_rfl) (fun _ _ _ h => h) (by kernel_rfl) (by kernel_rfl) (fun _ => by kernel_rfl) hS1 ?_
  simp only [Act.put, List.setIfInBounds_toArray, List.set_cons_succ, List.set_cons_zero]
  refine hload27 4 1 (some 9) (x := .tmp 3) (b := w.heap.size + 1) (d := d) rfl (by kernel_rfl) (by kernel_rfl) (by kernel_rfl) (fun _ _ _ h => h) (by kernel_rfl) (by kernel_rfl) (by kernel_rfl) (by kernel_rfl) rfl hS1 ?_
  simp only [Act.put, List.setIfInBounds_toArray, List.set_cons_succ, List.set_cons_zero]
  refine hload27 6 0 (some 11) (x := .tmp 2) (b := w.heap.size) (d := n) rfl (by kernel_rfl) (by kernel_rfl) (by kernel_rfl) (fun _ _ _ h => h) (by kernel_rfl) (by kernel_rfl) (by kernel_rfl) (by kernel_rfl) rfl hS1 ?_
  simp only [Act.put, List.setIfInBounds_toArray, List.set_cons_succ, List.set_cons_zero]
  refine hcall 5 (some 10) rfl (by kernel_rfl) (by kernel_rfl) (by kernel_rfl) (by kernel_rfl) (unhide HD _) hS1 (fun uw2 hS2 => ?_)
  clear hS1
  simp only [Act.put, List.setIfInBounds_toArray, List.set_cons_succ, List.set_cons_zero]
  refine hcall 7 (some 12) rfl (by kernel_rfl) (by kernel_rfl) (by kernel_rfl) (by kernel_rfl) (unhide HN _) hS2 (fun uw3 hS3 => ?_)
  clear hS2
  simp only [Act.put, List.setIfInBounds_toArray, List.set_cons_succ, List.set_cons_zero]
  refine hpure 8 (some 13) (.bool true) rfl (by kernel_rfl) (by kernel_rfl) (by kernel_rfl) (fun _ _ _ h => h) (by kernel_rfl) (by kernel_rfl) (fun _ => by kernel_rfl) hS3 ?_
  simp only [Act.put, List.setIfInBounds_toArray, List.set_cons_succ, List.set_cons_zero]
  refine hpure 9 (some 14) (.bool true) rfl (by kernel_rfl) (by kernel_rfl) (by kernel_rfl) (fun _ _ _ h => h) (by kernel_rfl) (by kernel_rfl) (fun _ => by kernel_rfl) hS3 ?_
  simp only [Act.put, List.setIfInBounds_toArray, List.set_cons_succ, List.set_cons_zero]
  refine hpure 10 (some 4) (.bool true) rfl (by kernel_rfl) (by kernel_rfl) (by kernel_rfl) (fun _ _ _ h => h) (by kernel_rfl) (by kernel_rfl) (fun _ => by kernel_rfl) hS3 ?_
  simp only [Act.put, List.setIfInBounds_toArray, List.set_cons_succ, List.set_cons_zero]
  refine wpAnyH_done (by kernel_rfl) ?_ _
  try simp only [Act.put, List.setIfInBounds_toArray, List.set_cons_succ, List.set_cons_zero]
  replace LL := hide hS3
  clear hS3
  go_wp2_with fail
  go_ret
  exact ⟨rfl, (unhide LL).below⟩
set_option maxHeartbeats 2000000 in
set_option maxRecDepth 100000 in
theorem turns_31 (n d : DD) (hn : FD n) (hd : FD d) (h1 : shapeV d = 3) (h2 : shapeV n = 1) (w : World) : Calls Tryz.prog 145 #[n.agg, d.agg] w fun e w' => e = .returned (.bool (turnV n d)) ∧ Below w.heap.size w w' := by
  have HD := hide (shape_any d hd)
  have HN := hide (shape_any n hn)
  clear hn hd
  have LL := hide (Kp.of2 (Lie.new2 w (.D n) (.D d)))
  unfold turnV
  rw [h1, h2]
  rw [h1] at HD
  rw [h2] at HN
  have hq0 : n.agg = .agg #[.int .i64 n.v.k, .bool n.v.b, .float .f64 n.v.x, .string n.v.s, .int .i64 n.v.i, .int .i64 n.g.k, .bool n.g.b, .float .f64 n.g.x, .string n.g.s, .int .i64 n.g.i, .int .i64 n.s.k, .bool n.s.b, .float .f64 n.s.x, .string n.s.s, .int .i64 n.s.i, .int .i64 n.w, .int .i64 n.e, .int .i64 n.c] := rfl
  have hq1 : d.agg = .agg #[.int .i64 d.v.k, .bool d.v.b, .float .f64 d.v.x, .string d.v.s, .int .i64 d.v.i, .int .i64 d.g.k, .bool d.g.b, .float .f64 d.g.x, .string d.g.s, .int .i64 d.g.i, .int .i64 d.s.k, .bool d.s.b, .float .f64 d.s.x, .string d.s.s, .int .i64 d.s.i, .int .i64 d.w, .int .i64 d.e, .int .i64 d.c] := rfl
  rw [hq0, hq1]
  clear hq0 hq1
  go_enter Tryz.func145, Tryz.ntmps145
  go_wp2_with fail
  refine wp_region_held_drew (P := Tryz.prog) (S := fun X => Kp w X [(w.heap.size, .D n), (w.heap.size + 1, .D d)]) (by kernel_rfl) (Kp.drew (unhide LL)) (fun hS0 => ?_)
  refine hload27 0 1 (some 5) (x := .tmp 3) (b := w.heap.size + 1) (d := d) rfl (by kernel_rfl) (by kernel_rfl) (by kernel_rfl) (fun _ _ _ h => h) (by kernel_rfl) (by kernel_rfl) (by kernel_rfl) (by kernel_rfl) rfl hS0 ?_
  simp only [Act.put, List.setIfInBounds_toArray, List.set_cons_succ, List.set_cons_zero]
  refine hcall 1 (some 6) rfl (by kernel_rfl) (by kernel_rfl) (by kernel_rfl) (by kernel_rfl) (unhide HD _) hS0 (fun uw1 hS1 => ?_)
  clear hS0
  simp only [Act.put, List.setIfInBounds_toArray, List.set_cons_succ, List.set_cons_zero]
  refine hpure 2 (some 7) (.bool true) rfl (by kernel_rfl) (by kernel_rfl) (by kernel_rfl) (fun _ _ _ h => h) (by kernel_rfl) (by kernel_rfl) (fun _ => by kernel_rfl) hS1 ?_
  simp only [Act.put, List.setIfInBounds_toArray, List.set_cons_succ, List.set_cons_zero]
  refine hpure 3 (some 8) (.bool true) rfl (by kernel_rfl) (by kernel_rfl) (by kernel_rfl) (fun _ _ _ h => h) (by kernel_rfl) (by kernel_rfl) (fun _ => by kernel_rfl) hS1 ?_
  simp only [Act.put, List.setIfInBounds_toArray, List.set_cons_succ, List.set_cons_zero]
  refine hload27 4 1 (some 9) (x := .tmp 3) (b := w.heap.size + 1) (d := d) rfl (by kernel_rfl) (by kernel_rfl) (by kernel_rfl) (fun _ _ _ h => h) (by kernel_rfl) (by kernel_rfl) (by kernel_rfl) (by kernel_rfl) rfl hS1 ?_
  simp only [Act.put, List.setIfInBounds_toArray, List.set_cons_succ, List.set_cons_zero]
  refine hload27 6 0 (some 11) (x := .tmp 2) (b := w.heap.size) (d := n) rfl (by kernel_rfl) (by kernel_rfl) (by kernel_rfl) (fun _ _ _ h => h) (by kernel_rfl) (by kernel_rfl) (by kernel_rfl) (by kernel_rfl) rfl hS1 ?_
  simp only [Act.put, List.setIfInBounds_toArray, List.set_cons_succ, List.set_cons_zero]
  refine hcall 5 (some 10) rfl (by kernel_rfl) (by kernel_rfl) (by kernel_rfl) (by kernel_rfl) (unhide HD _) hS1 (fun uw2 hS2 => ?_)
  clear hS1
  simp only [Act.put, List.setIfInBounds_toArray, List.set_cons_succ, List.set_cons_zero]
  refine hcall 7 (some 12) rfl (by kernel_rfl) (by kernel_rfl) (by kernel_rfl) (by kernel_rfl) (unhide HN _) hS2 (fun uw3 hS3 => ?_)
  clear hS2
  simp only [Act.put, List.setIfInBounds_toArray, List.set_cons_succ, List.set_cons_zero]
  refine hpure 8 (some 13) (.bool true) rfl (by kernel_rfl) (by kernel_rfl) (by kernel_rfl) (fun _ _ _ h => h) (by kernel_rfl) (by kernel_rfl) (fun _ => by kernel_rfl) hS3 ?_
  simp only [Act.put, List.setIfInBounds_toArray, List.set_cons_succ, List.set_cons_zero]
  refine hpure 9 (some 14) (.bool true) rfl (by kernel_rfl) (by kernel_rfl) (by kernel_rfl) (fun _ _ _ h => h) (by kernel_rfl) (by kernel_rfl) (fun _ => by kernel_rfl) hS3 ?_
  simp only [Act.put, List.setIfInBounds_toArray, List.set_cons_succ, List.set_cons_zero]
  refine hpure 10 (some 4) (.bool true) rfl (by kernel_rfl) (by kernel_rfl) (by kernel_rfl) (fun _ _ _ h => h) (by kernel_rfl) (by kernel_rfl) (fun _ => by kernel_rfl) hS3 ?_
  simp only [Act.put, List.setIfInBounds_toArray, List.set_cons_succ, List.set_cons_zero]
  refine wpAnyH_done (by kernel_rfl) ?_ _
  try simp only [Act.put, List.setIfInBounds_toArray, List.set_cons_succ, List.set_cons_zero]
  replace LL := hide hS3
  clear hS3
  go_wp2_with fail
  go_ret
  exact ⟨rfl, (unhide LL).below⟩
set_option maxHeartbeats 2000000 in
set_option maxRecDepth 100000 in
theorem turns_32 (n d : DD) (hn : FD n) (hd : FD d) (h1 : shapeV d = 3) (h2 : shapeV n = 2) (w : World) : Calls Tryz.prog 145 #[n.agg, d.agg] w fun e w' => e = .returned (.bool (turnV n d)) ∧ Below w.heap.size w w' := by
  have HD := hide (shape_any d hd)
  have HN := hide (shape_any n hn)
  clear hn hd
  have LL := hide (Kp.of2 (Lie.new2 w (.D n) (.D d)))
  unfold turnV
  rw [h1, h2]
  rw [h1] at HD
  rw [h2] at HN
  have hq0 : n.agg = .agg #[.int .i64 n.v.k, .bool n.v.b, .float .f64 n.v.x, .string n.v.s, .int .i64 n.v.i, .int .i64 n.g.k, .bool n.g.b, .float .f64 n.g.x, .string n.g.s, .int .i64 n.g.i, .int .i64 n.s.k, .bool n.s.b, .float .f64 n.s.x, .string n.s.s, .int .i64 n.s.i, .int .i64 n.w, .int .i64 n.e, .int .i64 n.c] := rfl
  have hq1 : d.agg = .agg #[.int .i64 d.v.k, .bool d.v.b, .float .f64 d.v.x, .string d.v.s, .int .i64 d.v.i, .int .i64 d.g.k, .bool d.g.b, .float .f64 d.g.x, .string d.g.s, .int .i64 d.g.i, .int .i64 d.s.k, .bool d.s.b, .float .f64 d.s.x, .string d.s.s, .int .i64 d.s.i, .int .i64 d.w, .int .i64 d.e, .int .i64 d.c] := rfl
  rw [hq0, hq1]
  clear hq0 hq1
  go_enter Tryz.func145, Tryz.ntmps145
  go_wp2_with fail
  refine wp_region_held_drew (P := Tryz.prog) (S := fun X => Kp w X [(w.heap.size, .D n), (w.heap.size + 1, .D d)]) (by kernel_rfl) (Kp.drew (unhide LL)) (fun hS0 => ?_)
  refine hload27 0 1 (some 5) (x := .tmp 3) (b := w.heap.size + 1) (d := d) rfl (by kernel_rfl) (by kernel_rfl) (by kernel_rfl) (fun _ _ _ h => h) (by kernel_rfl) (by kernel_rfl) (by kernel_rfl) (by kernel_rfl) rfl hS0 ?_
  simp only [Act.put, List.setIfInBounds_toArray, List.set_cons_succ, List.set_cons_zero]
  refine hcall 1 (some 6) rfl (by kernel_rfl) (by kernel_rfl) (by kernel_rfl) (by kernel_rfl) (unhide HD _) hS0 (fun uw1 hS1 => ?_)
  clear hS0
  simp only [Act.put, List.setIfInBounds_toArray, List.set_cons_succ, List.set_cons_zero]
  refine hpure 2 (some 7) (.bool true) rfl (by kernel_rfl) (by kernel_rfl) (by kernel_rfl) (fun _ _ _ h => h) (by kernel_rfl) (by kernel_rfl) (fun _ => by kernel_rfl) hS1 ?_
  simp only [Act.put, List.setIfInBounds_toArray, List.set_cons_succ, List.set_cons_zero]
  refine hpure 3 (some 8) (.bool true) rfl (by kernel_rfl) (by kernel_rfl) (by kernel_rfl) (fun _ _ _ h => h) (by kernel_rfl) (by kernel_rfl) (fun _ => by kernel_rfl) hS1 ?_
  simp only [Act.put, List.setIfInBounds_toArray, List.set_cons_succ, List.set_cons_zero]
  refine hload27 4 1 (some 9) (x := .tmp 3) (b := w.heap.size + 1) (d := d) rfl (by kernel_rfl) (by kernel_rfl) (by kernel_rfl) (fun _ _ _ h => h) (by kernel_rfl) (by kernel_rfl) (by kernel_rfl) (by kernel_rfl) rfl hS1 ?_
  simp only [Act.put, List.setIfInBounds_toArray, List.set_cons_succ, List.set_cons_zero]
  refine hload27 6 0 (some 11) (x := .tmp 2) (b := w.heap.size) (d := n) rfl (by kernel_rfl) (by kernel_rfl) (by kernel_rfl) (fun _ _ _ h => h) (by kernel_rfl) (by kernel_rfl) (by kernel_rfl) (by kernel_rfl) rfl hS1 ?_
  simp only [Act.put, List.setIfInBounds_toArray, List.set_cons_succ, List.set_cons_zero]
  refine hcall 5 (some 10) rfl (by kernel_rfl) (by kernel_rfl) (by kernel_rfl) (by kernel_rfl) (unhide HD _) hS1 (fun uw2 hS2 => ?_)
  clear hS1
  simp only [Act.put, List.setIfInBounds_toArray, List.set_cons_succ, List.set_cons_zero]
  refine hcall 7 (some 12) rfl (by kernel_rfl) (by kernel_rfl) (by kernel_rfl) (by kernel_rfl) (unhide HN _) hS2 (fun uw3 hS3 => ?_)
  clear hS2
  simp only [Act.put, List.setIfInBounds_toArray, List.set_cons_succ, List.set_cons_zero]
  refine hpure 8 (some 13) (.bool true) rfl (by kernel_rfl) (by kernel_rfl) (by kernel_rfl) (fun _ _ _ h => h) (by kernel_rfl) (by kernel_rfl) (fun _ => by kernel_rfl) hS3 ?_
  simp only [Act.put, List.setIfInBounds_toArray, List.set_cons_succ, List.set_cons_zero]
  refine hpure 9 (some 14) (.bool true) rfl (by kernel_rfl) (by kernel_rfl) (by kernel_rfl) (fun _ _ _ h => h) (by kernel_rfl) (by kernel_rfl) (fun _ => by kernel_rfl) hS3 ?_
  simp only [Act.put, List.setIfInBounds_toArray, List.set_cons_succ, List.set_cons_zero]
  refine hpure 10 (some 4) (.bool true) rfl (by kernel_rfl) (by kernel_rfl) (by kernel_rfl) (fun _ _ _ h => h) (by kernel_rfl) (by kernel_rfl) (fun _ => by kernel_rfl) hS3 ?_
  simp only [Act.put, List.setIfInBounds_toArray, List.set_cons_succ, List.set_cons_zero]
  refine wpAnyH_done (by kernel_rfl) ?_ _
  try simp only [Act.put, List.setIfInBounds_toArray, List.set_cons_succ, List.set_cons_zero]
  replace LL := hide hS3
  clear hS3
  go_wp2_with fail
  go_ret
  exact ⟨rfl, (unhide LL).below⟩
set_option maxHeartbeats 2000000 in
set_option maxRecDepth 100000 in
theorem turns_33 (n d : DD) (hn : FD n) (hd : FD d) (h1 : shapeV d = 3) (h2 : shapeV n = 3) (w : World) : Calls Tryz.prog 145 #[n.agg, d.agg] w fun e w' => e = .returned (.bool (turnV n d)) ∧ Below w.heap.size w w' := by
  have HD := hide (shape_any d hd)
  have HN := hide (shape_any n hn)
  clear hn hd
  have LL := hide (Kp.of2 (Lie.new2 w (.D n) (.D d)))
  unfold turnV
  rw [h1, h2]
  rw [h1] at HD
  rw [h2] at HN
  have hq0 : n.agg = .agg #[.int .i64 n.v.k, .bool n.v.b, .float .f64 n.v.x, .string n.v.s, .int .i64 n.v.i, .int .i64 n.g.k, .bool n.g.b, .float .f64 n.g.x, .string n.g.s, .int .i64 n.g.i, .int .i64 n.s.k, .bool n.s.b, .float .f64 n.s.x, .string n.s.s, .int .i64 n.s.i, .int .i64 n.w, .int .i64 n.e, .int .i64 n.c] := rfl
  have hq1 : d.agg = .agg #[.int .i64 d.v.k, .bool d.v.b, .float .f64 d.v.x, .string d.v.s, .int .i64 d.v.i, .int .i64 d.g.k, .bool d.g.b, .float .f64 d.g.x, .string d.g.s, .int .i64 d.g.i, .int .i64 d.s.k, .bool d.s.b, .float .f64 d.s.x, .string d.s.s, .int .i64 d.s.i, .int .i64 d.w, .int .i64 d.e, .int .i64 d.c] := rfl
  rw [hq0, hq1]
  clear hq0 hq1
  go_enter Tryz.func145, Tryz.ntmps145
  go_wp2_with fail
  refine wp_region_held_drew (P := Tryz.prog) (S := fun X => Kp w X [(w.heap.size, .D n), (w.heap.size + 1, .D d)]) (by kernel_rfl) (Kp.drew (unhide LL)) (fun hS0 => ?_)
  refine hload27 0 1 (some 5) (x := .tmp 3) (b := w.heap.size + 1) (d := d) rfl (by kernel_rfl) (by kernel_rfl) (by kernel_rfl) (fun _ _ _ h => h) (by kernel_rfl) (by kernel_rfl) (by kernel_rfl) (by kernel_rfl) rfl hS0 ?_
  simp only [Act.put, List.setIfInBounds_toArray, List.set_cons_succ, List.set_cons_zero]
  refine hcall 1 (some 6) rfl (by kernel_rfl) (by kernel_rfl) (by kernel_rfl) (by kernel_rfl) (unhide HD _) hS0 (fun uw1 hS1 => ?_)
  clear hS0
  simp only [Act.put, List.setIfInBounds_toArray, List.set_cons_succ, List.set_cons_zero]
  refine hpure 2 (some 7) (.bool true) rfl (by kernel_rfl) (by kernel_rfl) (by kernel_rfl) (fun _ _ _ h => h) (by kernel_rfl) (by kernel_rfl) (fun _ => by kernel_rfl) hS1 ?_
  simp only [Act.put, List.setIfInBounds_toArray, List.set_cons_succ, List.set_cons_zero]
  refine hpure 3 (some 8) (.bool true) rfl (by kernel_rfl) (by kernel_rfl) (by kernel_rfl) (fun _ _ _ h => h) (by kernel_rfl) (by kernel_rfl) (fun _ => by kernel_rfl) hS1 ?_
  simp only [Act.put, List.setIfInBounds_toArray, List.set_cons_succ, List.set_cons_zero]
  refine hload27 4 1 (some 9) (x := .tmp 3) (b := w.heap.size + 1) (d := d) rfl (by kernel_rfl) (by kernel_rfl) (by kernel_rfl) (fun _ _ _ h => h) (by kernel_rfl) (by kernel_rfl) (by kernel_rfl) (by kernel_rfl) rfl hS1 ?_
  simp only [Act.put, List.setIfInBounds_toArray, List.set_cons_succ, List.set_cons_zero]
  refine hload27 6 0 (some 11) (x := .tmp 2) (b := w.heap.size) (d := n) rfl (by kernel_rfl) (by kernel_rfl) (by kernel_rfl) (fun _ _ _ h => h) (by kernel_rfl) (by kernel_rfl) (by kernel_rfl) (by kernel_rfl) rfl hS1 ?_
  simp only [Act.put, List.setIfInBounds_toArray, List.set_cons_succ, List.set_cons_zero]
  refine hcall 5 (some 10) rfl (by kernel_rfl) (by kernel_rfl) (by kernel_rfl) (by kernel_rfl) (unhide HD _) hS1 (fun uw2 hS2 => ?_)
  clear hS1
  simp only [Act.put, List.setIfInBounds_toArray, List.set_cons_succ, List.set_cons_zero]
  refine hcall 7 (some 12) rfl (by kernel_rfl) (by kernel_rfl) (by kernel_rfl) (by kernel_rfl) (unhide HN _) hS2 (fun uw3 hS3 => ?_)
  clear hS2
  simp only [Act.put, List.setIfInBounds_toArray, List.set_cons_succ, List.set_cons_zero]
  refine hpure 8 (some 13) (.bool false) rfl (by kernel_rfl) (by kernel_rfl) (by kernel_rfl) (fun _ _ _ h => h) (by kernel_rfl) (by kernel_rfl) (fun _ => by kernel_rfl) hS3 ?_
  simp only [Act.put, List.setIfInBounds_toArray, List.set_cons_succ, List.set_cons_zero]
  refine hpure 9 (some 14) (.bool false) rfl (by kernel_rfl) (by kernel_rfl) (by kernel_rfl) (fun _ _ _ h => h) (by kernel_rfl) (by kernel_rfl) (fun _ => by kernel_rfl) hS3 ?_
  simp only [Act.put, List.setIfInBounds_toArray, List.set_cons_succ, List.set_cons_zero]
  refine hpure 10 (some 4) (.bool false) rfl (by kernel_rfl) (by kernel_rfl) (by kernel_rfl) (fun _ _ _ h => h) (by kernel_rfl) (by kernel_rfl) (fun _ => by kernel_rfl) hS3 ?_
  simp only [Act.put, List.setIfInBounds_toArray, List.set_cons_succ, List.set_cons_zero]
  refine wpAnyH_done (by kernel_rfl) ?_ _
  try simp only [Act.put, List.setIfInBounds_toArray, List.set_cons_succ, List.set_cons_zero]
  replace LL := hide hS3
  clear hS3
  go_wp2_with fail
  go_ret
  exact ⟨rfl, (unhide LL).below⟩
theorem shape_cases (d : DD) : shapeV d = 0 ∨ shapeV d = 1 ∨ shapeV d = 2 ∨ shapeV d = 3 := by
  unfold shapeV
  split
  · exact Or.inl rfl
  · split
    · exact Or.inr (Or.inr (Or.inl rfl))
    · split
      · exact Or.inr (Or.inr (Or.inr rfl))
      · exact Or.inr (Or.inl rfl)
theorem turns_any (n d : DD) (hn : FD n) (hd : FD d) (w : World) : Calls Tryz.prog 145 #[n.agg, d.agg] w fun e w' => e = .returned (.bool (turnV n d)) ∧ Below w.heap.size w w' := by
  rcases shape_cases d with h1 | h1 | h1 | h1
  · rcases shape_cases n with h2 | h2 | h2 | h2
    · exact turns_00 n d hn hd h1 h2 w
    · exact turns_01 n d hn hd h1 h2 w
    · exact turns_02 n d hn hd h1 h2 w
    · exact turns_03 n d hn hd h1 h2 w
  · exact turns_1 n d hn hd h1 w
  · rcases shape_cases n with h2 | h2 | h2 | h2
    · exact turns_20 n d hn hd h1 h2 w
    · exact turns_21 n d hn hd h1 h2 w
    · exact turns_22 n d hn hd h1 h2 w
    · exact turns_23 n d hn hd h1 h2 w
  · rcases shape_cases n with h2 | h2 | h2 | h2
    · exact turns_30 n d hn hd h1 h2 w
    · exact turns_31 n d hn hd h1 h2 w
    · exact turns_32 n d hn hd h1 h2 w
    · exact turns_33 n d hn hd h1 h2 w

set_option maxHeartbeats 2000000 in
set_option maxRecDepth 100000 in
theorem forbidden_any (n d : DD) (hn : FD n) (hd : FD d) (w : World) (hT : Lib.Utf8Tabs 1 2 w) : Calls Tryz.prog 136 #[n.agg, d.agg] w fun e w' => e = .returned (.bool (forbV n d)) ∧ Below w.heap.size w w' := by
  have HT := hide hT
  clear hT
  have HTu := hide (turns_any n d hn hd)
  have HSh := hide (shape_any n hn)
  have HG := hide (fun w hT => differs_any n.g d.g hn.2.1 hd.2.1 w hT)
  have HS := hide (fun w hT => differs_any n.s d.s hn.2.2 hd.2.2 w hT)
  have HV := hide (fun w hT => differs_any n.v d.v hn.1 hd.1 w hT)
  clear hn hd
  have LL := hide (Lie.new2 w (.D n) (.D d))
  unfold forbV
  generalize turnV n d = tu at *
  generalize shapeV n = sh at *
  generalize difV n.g d.g = dg at *
  generalize difV n.s d.s = ds at *
  generalize difV n.v d.v = dv at *
  generalize hq2 : (d.c == 2) = q2 at *
  generalize hqe : (d.e != 0) = qe at *
  generalize hqn : (d.e != n.e) = qn at *
  generalize hn1 : (n.w == 1) = n1 at *
  generalize hw2 : (d.w == 2) = w2 at *
  have hq0 : n.agg = .agg #[.int .i64 n.v.k, .bool n.v.b, .float .f64 n.v.x, .string n.v.s, .int .i64 n.v.i, .int .i64 n.g.k, .bool n.g.b, .float .f64 n.g.x, .string n.g.s, .int .i64 n.g.i, .int .i64 n.s.k, .bool n.s.b, .float .f64 n.s.x, .string n.s.s, .int .i64 n.s.i, .int .i64 n.w, .int .i64 n.e, .int .i64 n.c] := rfl
  have hq1 : d.agg = .agg #[.int .i64 d.v.k, .bool d.v.b, .float .f64 d.v.x, .string d.v.s, .int .i64 d.v.i, .int .i64 d.g.k, .bool d.g.b, .float .f64 d.g.x, .string d.g.s, .int .i64 d.g.i, .int .i64 d.s.k, .bool d.s.b, .float .f64 d.s.x, .string d.s.s, .int .i64 d.s.i, .int .i64 d.w, .int .i64 d.e, .int .i64 d.c] := rfl
  rw [hq0, hq1]
  clear hq0 hq1
  by_cases h3 : sh = 3
  · subst h3
    go_enter Tryz.func136, Tryz.ntmps136
    cases q2
    · cases qe
      · go_wp2_with (first | go_skip | ((with_reducible apply load27); (case ho => rfl); (case hw => rfl); (case hx => rfl); (case hc => first | exact (unhide LL).one | exact (unhide LL).two); simp only [Act.put, List.setIfInBounds_toArray, List.set_cons_succ, List.set_cons_zero]) | ((with_reducible apply load24v); (case ho => rfl); (case hw => rfl); (case hx => rfl); (case hc => first | exact (unhide LL).one | exact (unhide LL).two); simp only [Act.put, List.setIfInBounds_toArray, List.set_cons_succ, List.set_cons_zero]) | ((with_reducible apply load24g); (case ho => rfl); (case hw => rfl); (case hx => rfl); (case hc => first | exact (unhide LL).one | exact (unhide LL).two); simp only [Act.put, List.setIfInBounds_toArray, List.set_cons_succ, List.set_cons_zero]) | ((with_reducible apply load24s); (case ho => rfl); (case hw => rfl); (case hx => rfl); (case hc => first | exact (unhide LL).one | exact (unhide LL).two); simp only [Act.put, List.setIfInBounds_toArray, List.set_cons_succ, List.set_cons_zero]) | ((with_reducible apply load25w); (case ho => rfl); (case hw => rfl); (case hx => rfl); (case hc => first | exact (unhide LL).one | exact (unhide LL).two); simp only [Act.put, List.setIfInBounds_toArray, List.set_cons_succ, List.set_cons_zero]) | ((with_reducible apply load25e); (case ho => rfl); (case hw => rfl); (case hx => rfl); (case hc => first | exact (unhide LL).one | exact (unhide LL).two); simp only [Act.put, List.setIfInBounds_toArray, List.set_cons_succ, List.set_cons_zero]) | ((with_reducible apply load25c); (case ho => rfl); (case hw => rfl); (case hx => rfl); (case hc => first | exact (unhide LL).one | exact (unhide LL).two); simp only [Act.put, List.setIfInBounds_toArray, List.set_cons_succ, List.set_cons_zero]) | (go_at_call 93; refine (said_any _ _).mono ?_; rintro _ _ ⟨rfl, rfl⟩))
        refine (unhide HTu _).mono ?_
        rintro _ w16 ⟨rfl, hb⟩
        replace LL := hide ((unhide LL).on hb)
        clear hb
        cases tu
        · go_wp2_with (first | go_skip | ((with_reducible apply load27); (case ho => rfl); (case hw => rfl); (case hx => rfl); (case hc => first | exact (unhide LL).one | exact (unhide LL).two); simp only [Act.put, List.setIfInBounds_toArray, List.set_cons_succ, List.set_cons_zero]) | ((with_reducible apply load24v); (case ho => rfl); (case hw => rfl); (case hx => rfl); (case hc => first | exact (unhide LL).one | exact (unhide LL).two); simp only [Act.put, List.setIfInBounds_toArray, List.set_cons_succ, List.set_cons_zero]) | ((with_reducible apply load24g); (case ho => rfl); (case hw => rfl); (case hx => rfl); (case hc => first | exact (unhide LL).one | exact (unhide LL).two); simp only [Act.put, List.setIfInBounds_toArray, List.set_cons_succ, List.set_cons_zero]) | ((with_reducible apply load24s); (case ho => rfl); (case hw => rfl); (case hx => rfl); (case hc => first | exact (unhide LL).one | exact (unhide LL).two); simp only [Act.put, List.setIfInBounds_toArray, List.set_cons_succ, List.set_cons_zero]) | ((with_reducible apply load25w); (case ho => rfl); (case hw => rfl); (case hx => rfl); (case hc => first | exact (unhide LL).one | exact (unhide LL).two); simp only [Act.put, List.setIfInBounds_toArray, List.set_cons_succ, List.set_cons_zero]) | ((with_reducible apply load25e); (case ho => rfl); (case hw => rfl); (case hx => rfl); (case hc => first | exact (unhide LL).one | exact (unhide LL).two); simp only [Act.put, List.setIfInBounds_toArray, List.set_cons_succ, List.set_cons_zero]) | ((with_reducible apply load25c); (case ho => rfl); (case hw => rfl); (case hx => rfl); (case hc => first | exact (unhide LL).one | exact (unhide LL).two); simp only [Act.put, List.setIfInBounds_toArray, List.set_cons_succ, List.set_cons_zero]) | (go_at_call 93; refine (said_any _ _).mono ?_; rintro _ _ ⟨rfl, rfl⟩))
          refine (unhide HSh _).mono ?_
          rintro _ w17 ⟨rfl, hb⟩
          replace LL := hide ((unhide LL).on hb)
          clear hb
          go_wp2_with (first | go_skip | ((with_reducible apply load27); (case ho => rfl); (case hw => rfl); (case hx => rfl); (case hc => first | exact (unhide LL).one | exact (unhide LL).two); simp only [Act.put, List.setIfInBounds_toArray, List.set_cons_succ, List.set_cons_zero]) | ((with_reducible apply load24v); (case ho => rfl); (case hw => rfl); (case hx => rfl); (case hc => first | exact (unhide LL).one | exact (unhide LL).two); simp only [Act.put, List.setIfInBounds_toArray, List.set_cons_succ, List.set_cons_zero]) | ((with_reducible apply load24g); (case ho => rfl); (case hw => rfl); (case hx => rfl); (case hc => first | exact (unhide LL).one | exact (unhide LL).two); simp only [Act.put, List.setIfInBounds_toArray, List.set_cons_succ, List.set_cons_zero]) | ((with_reducible apply load24s); (case ho => rfl); (case hw => rfl); (case hx => rfl); (case hc => first | exact (unhide LL).one | exact (unhide LL).two); simp only [Act.put, List.setIfInBounds_toArray, List.set_cons_succ, List.set_cons_zero]) | ((with_reducible apply load25w); (case ho => rfl); (case hw => rfl); (case hx => rfl); (case hc => first | exact (unhide LL).one | exact (unhide LL).two); simp only [Act.put, List.setIfInBounds_toArray, List.set_cons_succ, List.set_cons_zero]) | ((with_reducible apply load25e); (case ho => rfl); (case hw => rfl); (case hx => rfl); (case hc => first | exact (unhide LL).one | exact (unhide LL).two); simp only [Act.put, List.setIfInBounds_toArray, List.set_cons_succ, List.set_cons_zero]) | ((with_reducible apply load25c); (case ho => rfl); (case hw => rfl); (case hx => rfl); (case hc => first | exact (unhide LL).one | exact (unhide LL).two); simp only [Act.put, List.setIfInBounds_toArray, List.set_cons_succ, List.set_cons_zero]) | (go_at_call 93; refine (said_any _ _).mono ?_; rintro _ _ ⟨rfl, rfl⟩))
          refine (unhide HG _ (tabs_below (unhide HT) (unhide LL).below)).mono ?_
          rintro _ w18 ⟨rfl, hb⟩
          replace LL := hide ((unhide LL).on hb)
          clear hb
          cases dg
          · go_wp2_with (first | go_skip | ((with_reducible apply load27); (case ho => rfl); (case hw => rfl); (case hx => rfl); (case hc => first | exact (unhide LL).one | exact (unhide LL).two); simp only [Act.put, List.setIfInBounds_toArray, List.set_cons_succ, List.set_cons_zero]) | ((with_reducible apply load24v); (case ho => rfl); (case hw => rfl); (case hx => rfl); (case hc => first | exact (unhide LL).one | exact (unhide LL).two); simp only [Act.put, List.setIfInBounds_toArray, List.set_cons_succ, List.set_cons_zero]) | ((with_reducible apply load24g); (case ho => rfl); (case hw => rfl); (case hx => rfl); (case hc => first | exact (unhide LL).one | exact (unhide LL).two); simp only [Act.put, List.setIfInBounds_toArray, List.set_cons_succ, List.set_cons_zero]) | ((with_reducible apply load24s); (case ho => rfl); (case hw => rfl); (case hx => rfl); (case hc => first | exact (unhide LL).one | exact (unhide LL).two); simp only [Act.put, List.setIfInBounds_toArray, List.set_cons_succ, List.set_cons_zero]) | ((with_reducible apply load25w); (case ho => rfl); (case hw => rfl); (case hx => rfl); (case hc => first | exact (unhide LL).one | exact (unhide LL).two); simp only [Act.put, List.setIfInBounds_toArray, List.set_cons_succ, List.set_cons_zero]) | ((with_reducible apply load25e); (case ho => rfl); (case hw => rfl); (case hx => rfl); (case hc => first | exact (unhide LL).one | exact (unhide LL).two); simp only [Act.put, List.setIfInBounds_toArray, List.set_cons_succ, List.set_cons_zero]) | ((with_reducible apply load25c); (case ho => rfl); (case hw => rfl); (case hx => rfl); (case hc => first | exact (unhide LL).one | exact (unhide LL).two); simp only [Act.put, List.setIfInBounds_toArray, List.set_cons_succ, List.set_cons_zero]) | (go_at_call 93; refine (said_any _ _).mono ?_; rintro _ _ ⟨rfl, rfl⟩))
            refine (unhide HS _ (tabs_below (unhide HT) (unhide LL).below)).mono ?_
            rintro _ w19 ⟨rfl, hb⟩
            replace LL := hide ((unhide LL).on hb)
            clear hb
            go_wp2_with (first | go_skip | ((with_reducible apply load27); (case ho => rfl); (case hw => rfl); (case hx => rfl); (case hc => first | exact (unhide LL).one | exact (unhide LL).two); simp only [Act.put, List.setIfInBounds_toArray, List.set_cons_succ, List.set_cons_zero]) | ((with_reducible apply load24v); (case ho => rfl); (case hw => rfl); (case hx => rfl); (case hc => first | exact (unhide LL).one | exact (unhide LL).two); simp only [Act.put, List.setIfInBounds_toArray, List.set_cons_succ, List.set_cons_zero]) | ((with_reducible apply load24g); (case ho => rfl); (case hw => rfl); (case hx => rfl); (case hc => first | exact (unhide LL).one | exact (unhide LL).two); simp only [Act.put, List.setIfInBounds_toArray, List.set_cons_succ, List.set_cons_zero]) | ((with_reducible apply load24s); (case ho => rfl); (case hw => rfl); (case hx => rfl); (case hc => first | exact (unhide LL).one | exact (unhide LL).two); simp only [Act.put, List.setIfInBounds_toArray, List.set_cons_succ, List.set_cons_zero]) | ((with_reducible apply load25w); (case ho => rfl); (case hw => rfl); (case hx => rfl); (case hc => first | exact (unhide LL).one | exact (unhide LL).two); simp only [Act.put, List.setIfInBounds_toArray, List.set_cons_succ, List.set_cons_zero]) | ((with_reducible apply load25e); (case ho => rfl); (case hw => rfl); (case hx => rfl); (case hc => first | exact (unhide LL).one | exact (unhide LL).two); simp only [Act.put, List.setIfInBounds_toArray, List.set_cons_succ, List.set_cons_zero]) | ((with_reducible apply load25c); (case ho => rfl); (case hw => rfl); (case hx => rfl); (case hc => first | exact (unhide LL).one | exact (unhide LL).two); simp only [Act.put, List.setIfInBounds_toArray, List.set_cons_succ, List.set_cons_zero]) | (go_at_call 93; refine (said_any _ _).mono ?_; rintro _ _ ⟨rfl, rfl⟩))
            go_ret
            exact ⟨rfl, (unhide LL).below⟩
          · go_wp2_with (first | go_skip | ((with_reducible apply load27); (case ho => rfl); (case hw => rfl); (case hx => rfl); (case hc => first | exact (unhide LL).one | exact (unhide LL).two); simp only [Act.put, List.setIfInBounds_toArray, List.set_cons_succ, List.set_cons_zero]) | ((with_reducible apply load24v); (case ho => rfl); (case hw => rfl); (case hx => rfl); (case hc => first | exact (unhide LL).one | exact (unhide LL).two); simp only [Act.put, List.setIfInBounds_toArray, List.set_cons_succ, List.set_cons_zero]) | ((with_reducible apply load24g); (case ho => rfl); (case hw => rfl); (case hx => rfl); (case hc => first | exact (unhide LL).one | exact (unhide LL).two); simp only [Act.put, List.setIfInBounds_toArray, List.set_cons_succ, List.set_cons_zero]) | ((with_reducible apply load24s); (case ho => rfl); (case hw => rfl); (case hx => rfl); (case hc => first | exact (unhide LL).one | exact (unhide LL).two); simp only [Act.put, List.setIfInBounds_toArray, List.set_cons_succ, List.set_cons_zero]) | ((with_reducible apply load25w); (case ho => rfl); (case hw => rfl); (case hx => rfl); (case hc => first | exact (unhide LL).one | exact (unhide LL).two); simp only [Act.put, List.setIfInBounds_toArray, List.set_cons_succ, List.set_cons_zero]) | ((with_reducible apply load25e); (case ho => rfl); (case hw => rfl); (case hx => rfl); (case hc => first | exact (unhide LL).one | exact (unhide LL).two); simp only [Act.put, List.setIfInBounds_toArray, List.set_cons_succ, List.set_cons_zero]) | ((with_reducible apply load25c); (case ho => rfl); (case hw => rfl); (case hx => rfl); (case hc => first | exact (unhide LL).one | exact (unhide LL).two); simp only [Act.put, List.setIfInBounds_toArray, List.set_cons_succ, List.set_cons_zero]) | (go_at_call 93; refine (said_any _ _).mono ?_; rintro _ _ ⟨rfl, rfl⟩))
            go_ret
            exact ⟨rfl, (unhide LL).below⟩
        · go_wp2_with (first | go_skip | ((with_reducible apply load27); (case ho => rfl); (case hw => rfl); (case hx => rfl); (case hc => first | exact (unhide LL).one | exact (unhide LL).two); simp only [Act.put, List.setIfInBounds_toArray, List.set_cons_succ, List.set_cons_zero]) | ((with_reducible apply load24v); (case ho => rfl); (case hw => rfl); (case hx => rfl); (case hc => first | exact (unhide LL).one | exact (unhide LL).two); simp only [Act.put, List.setIfInBounds_toArray, List.set_cons_succ, List.set_cons_zero]) | ((with_reducible apply load24g); (case ho => rfl); (case hw => rfl); (case hx => rfl); (case hc => first | exact (unhide LL).one | exact (unhide LL).two); simp only [Act.put, List.setIfInBounds_toArray, List.set_cons_succ, List.set_cons_zero]) | ((with_reducible apply load24s); (case ho => rfl); (case hw => rfl); (case hx => rfl); (case hc => first | exact (unhide LL).one | exact (unhide LL).two); simp only [Act.put, List.setIfInBounds_toArray, List.set_cons_succ, List.set_cons_zero]) | ((with_reducible apply load25w); (case ho => rfl); (case hw => rfl); (case hx => rfl); (case hc => first | exact (unhide LL).one | exact (unhide LL).two); simp only [Act.put, List.setIfInBounds_toArray, List.set_cons_succ, List.set_cons_zero]) | ((with_reducible apply load25e); (case ho => rfl); (case hw => rfl); (case hx => rfl); (case hc => first | exact (unhide LL).one | exact (unhide LL).two); simp only [Act.put, List.setIfInBounds_toArray, List.set_cons_succ, List.set_cons_zero]) | ((with_reducible apply load25c); (case ho => rfl); (case hw => rfl); (case hx => rfl); (case hc => first | exact (unhide LL).one | exact (unhide LL).two); simp only [Act.put, List.setIfInBounds_toArray, List.set_cons_succ, List.set_cons_zero]) | (go_at_call 93; refine (said_any _ _).mono ?_; rintro _ _ ⟨rfl, rfl⟩))
          go_ret
          exact ⟨rfl, (unhide LL).below⟩
      · cases qn
        · go_wp2_with (first | go_skip | ((with_reducible apply load27); (case ho => rfl); (case hw => rfl); (case hx => rfl); (case hc => first | exact (unhide LL).one | exact (unhide LL).two); simp only [Act.put, List.setIfInBounds_toArray, List.set_cons_succ, List.set_cons_zero]) | ((with_reducible apply load24v); (case ho => rfl); (case hw => rfl); (case hx => rfl); (case hc => first | exact (unhide LL).one | exact (unhide LL).two); simp only [Act.put, List.setIfInBounds_toArray, List.set_cons_succ, List.set_cons_zero]) | ((with_reducible apply load24g); (case ho => rfl); (case hw => rfl); (case hx => rfl); (case hc => first | exact (unhide LL).one | exact (unhide LL).two); simp only [Act.put, List.setIfInBounds_toArray, List.set_cons_succ, List.set_cons_zero]) | ((with_reducible apply load24s); (case ho => rfl); (case hw => rfl); (case hx => rfl); (case hc => first | exact (unhide LL).one | exact (unhide LL).two); simp only [Act.put, List.setIfInBounds_toArray, List.set_cons_succ, List.set_cons_zero]) | ((with_reducible apply load25w); (case ho => rfl); (case hw => rfl); (case hx => rfl); (case hc => first | exact (unhide LL).one | exact (unhide LL).two); simp only [Act.put, List.setIfInBounds_toArray, List.set_cons_succ, List.set_cons_zero]) | ((with_reducible apply load25e); (case ho => rfl); (case hw => rfl); (case hx => rfl); (case hc => first | exact (unhide LL).one | exact (unhide LL).two); simp only [Act.put, List.setIfInBounds_toArray, List.set_cons_succ, List.set_cons_zero]) | ((with_reducible apply load25c); (case ho => rfl); (case hw => rfl); (case hx => rfl); (case hc => first | exact (unhide LL).one | exact (unhide LL).two); simp only [Act.put, List.setIfInBounds_toArray, List.set_cons_succ, List.set_cons_zero]) | (go_at_call 93; refine (said_any _ _).mono ?_; rintro _ _ ⟨rfl, rfl⟩))
          refine (unhide HTu _).mono ?_
          rintro _ w22 ⟨rfl, hb⟩
          replace LL := hide ((unhide LL).on hb)
          clear hb
          cases tu
          · go_wp2_with (first | go_skip | ((with_reducible apply load27); (case ho => rfl); (case hw => rfl); (case hx => rfl); (case hc => first | exact (unhide LL).one | exact (unhide LL).two); simp only [Act.put, List.setIfInBounds_toArray, List.set_cons_succ, List.set_cons_zero]) | ((with_reducible apply load24v); (case ho => rfl); (case hw => rfl); (case hx => rfl); (case hc => first | exact (unhide LL).one | exact (unhide LL).two); simp only [Act.put, List.setIfInBounds_toArray, List.set_cons_succ, List.set_cons_zero]) | ((with_reducible apply load24g); (case ho => rfl); (case hw => rfl); (case hx => rfl); (case hc => first | exact (unhide LL).one | exact (unhide LL).two); simp only [Act.put, List.setIfInBounds_toArray, List.set_cons_succ, List.set_cons_zero]) | ((with_reducible apply load24s); (case ho => rfl); (case hw => rfl); (case hx => rfl); (case hc => first | exact (unhide LL).one | exact (unhide LL).two); simp only [Act.put, List.setIfInBounds_toArray, List.set_cons_succ, List.set_cons_zero]) | ((with_reducible apply load25w); (case ho => rfl); (case hw => rfl); (case hx => rfl); (case hc => first | exact (unhide LL).one | exact (unhide LL).two); simp only [Act.put, List.setIfInBounds_toArray, List.set_cons_succ, List.set_cons_zero]) | ((with_reducible apply load25e); (case ho => rfl); (case hw => rfl); (case hx => rfl); (case hc => first | exact (unhide LL).one | exact (unhide LL).two); simp only [Act.put, List.setIfInBounds_toArray, List.set_cons_succ, List.set_cons_zero]) | ((with_reducible apply load25c); (case ho => rfl); (case hw => rfl); (case hx => rfl); (case hc => first | exact (unhide LL).one | exact (unhide LL).two); simp only [Act.put, List.setIfInBounds_toArray, List.set_cons_succ, List.set_cons_zero]) | (go_at_call 93; refine (said_any _ _).mono ?_; rintro _ _ ⟨rfl, rfl⟩))
            refine (unhide HSh _).mono ?_
            rintro _ w23 ⟨rfl, hb⟩
            replace LL := hide ((unhide LL).on hb)
            clear hb
            go_wp2_with (first | go_skip | ((with_reducible apply load27); (case ho => rfl); (case hw => rfl); (case hx => rfl); (case hc => first | exact (unhide LL).one | exact (unhide LL).two); simp only [Act.put, List.setIfInBounds_toArray, List.set_cons_succ, List.set_cons_zero]) | ((with_reducible apply load24v); (case ho => rfl); (case hw => rfl); (case hx => rfl); (case hc => first | exact (unhide LL).one | exact (unhide LL).two); simp only [Act.put, List.setIfInBounds_toArray, List.set_cons_succ, List.set_cons_zero]) | ((with_reducible apply load24g); (case ho => rfl); (case hw => rfl); (case hx => rfl); (case hc => first | exact (unhide LL).one | exact (unhide LL).two); simp only [Act.put, List.setIfInBounds_toArray, List.set_cons_succ, List.set_cons_zero]) | ((with_reducible apply load24s); (case ho => rfl); (case hw => rfl); (case hx => rfl); (case hc => first | exact (unhide LL).one | exact (unhide LL).two); simp only [Act.put, List.setIfInBounds_toArray, List.set_cons_succ, List.set_cons_zero]) | ((with_reducible apply load25w); (case ho => rfl); (case hw => rfl); (case hx => rfl); (case hc => first | exact (unhide LL).one | exact (unhide LL).two); simp only [Act.put, List.setIfInBounds_toArray, List.set_cons_succ, List.set_cons_zero]) | ((with_reducible apply load25e); (case ho => rfl); (case hw => rfl); (case hx => rfl); (case hc => first | exact (unhide LL).one | exact (unhide LL).two); simp only [Act.put, List.setIfInBounds_toArray, List.set_cons_succ, List.set_cons_zero]) | ((with_reducible apply load25c); (case ho => rfl); (case hw => rfl); (case hx => rfl); (case hc => first | exact (unhide LL).one | exact (unhide LL).two); simp only [Act.put, List.setIfInBounds_toArray, List.set_cons_succ, List.set_cons_zero]) | (go_at_call 93; refine (said_any _ _).mono ?_; rintro _ _ ⟨rfl, rfl⟩))
            refine (unhide HG _ (tabs_below (unhide HT) (unhide LL).below)).mono ?_
            rintro _ w24 ⟨rfl, hb⟩
            replace LL := hide ((unhide LL).on hb)
            clear hb
            cases dg
            · go_wp2_with (first | go_skip | ((with_reducible apply load27); (case ho => rfl); (case hw => rfl); (case hx => rfl); (case hc => first | exact (unhide LL).one | exact (unhide LL).two); simp only [Act.put, List.setIfInBounds_toArray, List.set_cons_succ, List.set_cons_zero]) | ((with_reducible apply load24v); (case ho => rfl); (case hw => rfl); (case hx => rfl); (case hc => first | exact (unhide LL).one | exact (unhide LL).two); simp only [Act.put, List.setIfInBounds_toArray, List.set_cons_succ, List.set_cons_zero]) | ((with_reducible apply load24g); (case ho => rfl); (case hw => rfl); (case hx => rfl); (case hc => first | exact (unhide LL).one | exact (unhide LL).two); simp only [Act.put, List.setIfInBounds_toArray, List.set_cons_succ, List.set_cons_zero]) | ((with_reducible apply load24s); (case ho => rfl); (case hw => rfl); (case hx => rfl); (case hc => first | exact (unhide LL).one | exact (unhide LL).two); simp only [Act.put, List.setIfInBounds_toArray, List.set_cons_succ, List.set_cons_zero]) | ((with_reducible apply load25w); (case ho => rfl); (case hw => rfl); (case hx => rfl); (case hc => first | exact (unhide LL).one | exact (unhide LL).two); simp only [Act.put, List.setIfInBounds_toArray, List.set_cons_succ, List.set_cons_zero]) | ((with_reducible apply load25e); (case ho => rfl); (case hw => rfl); (case hx => rfl); (case hc => first | exact (unhide LL).one | exact (unhide LL).two); simp only [Act.put, List.setIfInBounds_toArray, List.set_cons_succ, List.set_cons_zero]) | ((with_reducible apply load25c); (case ho => rfl); (case hw => rfl); (case hx => rfl); (case hc => first | exact (unhide LL).one | exact (unhide LL).two); simp only [Act.put, List.setIfInBounds_toArray, List.set_cons_succ, List.set_cons_zero]) | (go_at_call 93; refine (said_any _ _).mono ?_; rintro _ _ ⟨rfl, rfl⟩))
              refine (unhide HS _ (tabs_below (unhide HT) (unhide LL).below)).mono ?_
              rintro _ w25 ⟨rfl, hb⟩
              replace LL := hide ((unhide LL).on hb)
              clear hb
              go_wp2_with (first | go_skip | ((with_reducible apply load27); (case ho => rfl); (case hw => rfl); (case hx => rfl); (case hc => first | exact (unhide LL).one | exact (unhide LL).two); simp only [Act.put, List.setIfInBounds_toArray, List.set_cons_succ, List.set_cons_zero]) | ((with_reducible apply load24v); (case ho => rfl); (case hw => rfl); (case hx => rfl); (case hc => first | exact (unhide LL).one | exact (unhide LL).two); simp only [Act.put, List.setIfInBounds_toArray, List.set_cons_succ, List.set_cons_zero]) | ((with_reducible apply load24g); (case ho => rfl); (case hw => rfl); (case hx => rfl); (case hc => first | exact (unhide LL).one | exact (unhide LL).two); simp only [Act.put, List.setIfInBounds_toArray, List.set_cons_succ, List.set_cons_zero]) | ((with_reducible apply load24s); (case ho => rfl); (case hw => rfl); (case hx => rfl); (case hc => first | exact (unhide LL).one | exact (unhide LL).two); simp only [Act.put, List.setIfInBounds_toArray, List.set_cons_succ, List.set_cons_zero]) | ((with_reducible apply load25w); (case ho => rfl); (case hw => rfl); (case hx => rfl); (case hc => first | exact (unhide LL).one | exact (unhide LL).two); simp only [Act.put, List.setIfInBounds_toArray, List.set_cons_succ, List.set_cons_zero]) | ((with_reducible apply load25e); (case ho => rfl); (case hw => rfl); (case hx => rfl); (case hc => first | exact (unhide LL).one | exact (unhide LL).two); simp only [Act.put, List.setIfInBounds_toArray, List.set_cons_succ, List.set_cons_zero]) | ((with_reducible apply load25c); (case ho => rfl); (case hw => rfl); (case hx => rfl); (case hc => first | exact (unhide LL).one | exact (unhide LL).two); simp only [Act.put, List.setIfInBounds_toArray, List.set_cons_succ, List.set_cons_zero]) | (go_at_call 93; refine (said_any _ _).mono ?_; rintro _ _ ⟨rfl, rfl⟩))
              go_ret
              exact ⟨rfl, (unhide LL).below⟩
            · go_wp2_with (first | go_skip | ((with_reducible apply load27); (case ho => rfl); (case hw => rfl); (case hx => rfl); (case hc => first | exact (unhide LL).one | exact (unhide LL).two); simp only [Act.put, List.setIfInBounds_toArray, List.set_cons_succ, List.set_cons_zero]) | ((with_reducible apply load24v); (case ho => rfl); (case hw => rfl); (case hx => rfl); (case hc => first | exact (unhide LL).one | exact (unhide LL).two); simp only [Act.put, List.setIfInBounds_toArray, List.set_cons_succ, List.set_cons_zero]) | ((with_reducible apply load24g); (case ho => rfl); (case hw => rfl); (case hx => rfl); (case hc => first | exact (unhide LL).one | exact (unhide LL).two); simp only [Act.put, List.setIfInBounds_toArray, List.set_cons_succ, List.set_cons_zero]) | ((with_reducible apply load24s); (case ho => rfl); (case hw => rfl); (case hx => rfl); (case hc => first | exact (unhide LL).one | exact (unhide LL).two); simp only [Act.put, List.setIfInBounds_toArray, List.set_cons_succ, List.set_cons_zero]) | ((with_reducible apply load25w); (case ho => rfl); (case hw => rfl); (case hx => rfl); (case hc => first | exact (unhide LL).one | exact (unhide LL).two); simp only [Act.put, List.setIfInBounds_toArray, List.set_cons_succ, List.set_cons_zero]) | ((with_reducible apply load25e); (case ho => rfl); (case hw => rfl); (case hx => rfl); (case hc => first | exact (unhide LL).one | exact (unhide LL).two); simp only [Act.put, List.setIfInBounds_toArray, List.set_cons_succ, List.set_cons_zero]) | ((with_reducible apply load25c); (case ho => rfl); (case hw => rfl); (case hx => rfl); (case hc => first | exact (unhide LL).one | exact (unhide LL).two); simp only [Act.put, List.setIfInBounds_toArray, List.set_cons_succ, List.set_cons_zero]) | (go_at_call 93; refine (said_any _ _).mono ?_; rintro _ _ ⟨rfl, rfl⟩))
              go_ret
              exact ⟨rfl, (unhide LL).below⟩
          · go_wp2_with (first | go_skip | ((with_reducible apply load27); (case ho => rfl); (case hw => rfl); (case hx => rfl); (case hc => first | exact (unhide LL).one | exact (unhide LL).two); simp only [Act.put, List.setIfInBounds_toArray, List.set_cons_succ, List.set_cons_zero]) | ((with_reducible apply load24v); (case ho => rfl); (case hw => rfl); (case hx => rfl); (case hc => first | exact (unhide LL).one | exact (unhide LL).two); simp only [Act.put, List.setIfInBounds_toArray, List.set_cons_succ, List.set_cons_zero]) | ((with_reducible apply load24g); (case ho => rfl); (case hw => rfl); (case hx => rfl); (case hc => first | exact (unhide LL).one | exact (unhide LL).two); simp only [Act.put, List.setIfInBounds_toArray, List.set_cons_succ, List.set_cons_zero]) | ((with_reducible apply load24s); (case ho => rfl); (case hw => rfl); (case hx => rfl); (case hc => first | exact (unhide LL).one | exact (unhide LL).two); simp only [Act.put, List.setIfInBounds_toArray, List.set_cons_succ, List.set_cons_zero]) | ((with_reducible apply load25w); (case ho => rfl); (case hw => rfl); (case hx => rfl); (case hc => first | exact (unhide LL).one | exact (unhide LL).two); simp only [Act.put, List.setIfInBounds_toArray, List.set_cons_succ, List.set_cons_zero]) | ((with_reducible apply load25e); (case ho => rfl); (case hw => rfl); (case hx => rfl); (case hc => first | exact (unhide LL).one | exact (unhide LL).two); simp only [Act.put, List.setIfInBounds_toArray, List.set_cons_succ, List.set_cons_zero]) | ((with_reducible apply load25c); (case ho => rfl); (case hw => rfl); (case hx => rfl); (case hc => first | exact (unhide LL).one | exact (unhide LL).two); simp only [Act.put, List.setIfInBounds_toArray, List.set_cons_succ, List.set_cons_zero]) | (go_at_call 93; refine (said_any _ _).mono ?_; rintro _ _ ⟨rfl, rfl⟩))
            go_ret
            exact ⟨rfl, (unhide LL).below⟩
        · go_wp2_with (first | go_skip | ((with_reducible apply load27); (case ho => rfl); (case hw => rfl); (case hx => rfl); (case hc => first | exact (unhide LL).one | exact (unhide LL).two); simp only [Act.put, List.setIfInBounds_toArray, List.set_cons_succ, List.set_cons_zero]) | ((with_reducible apply load24v); (case ho => rfl); (case hw => rfl); (case hx => rfl); (case hc => first | exact (unhide LL).one | exact (unhide LL).two); simp only [Act.put, List.setIfInBounds_toArray, List.set_cons_succ, List.set_cons_zero]) | ((with_reducible apply load24g); (case ho => rfl); (case hw => rfl); (case hx => rfl); (case hc => first | exact (unhide LL).one | exact (unhide LL).two); simp only [Act.put, List.setIfInBounds_toArray, List.set_cons_succ, List.set_cons_zero]) | ((with_reducible apply load24s); (case ho => rfl); (case hw => rfl); (case hx => rfl); (case hc => first | exact (unhide LL).one | exact (unhide LL).two); simp only [Act.put, List.setIfInBounds_toArray, List.set_cons_succ, List.set_cons_zero]) | ((with_reducible apply load25w); (case ho => rfl); (case hw => rfl); (case hx => rfl); (case hc => first | exact (unhide LL).one | exact (unhide LL).two); simp only [Act.put, List.setIfInBounds_toArray, List.set_cons_succ, List.set_cons_zero]) | ((with_reducible apply load25e); (case ho => rfl); (case hw => rfl); (case hx => rfl); (case hc => first | exact (unhide LL).one | exact (unhide LL).two); simp only [Act.put, List.setIfInBounds_toArray, List.set_cons_succ, List.set_cons_zero]) | ((with_reducible apply load25c); (case ho => rfl); (case hw => rfl); (case hx => rfl); (case hc => first | exact (unhide LL).one | exact (unhide LL).two); simp only [Act.put, List.setIfInBounds_toArray, List.set_cons_succ, List.set_cons_zero]) | (go_at_call 93; refine (said_any _ _).mono ?_; rintro _ _ ⟨rfl, rfl⟩))
          go_ret
          exact ⟨rfl, (unhide LL).below⟩
    · go_wp2_with (first | go_skip | ((with_reducible apply load27); (case ho => rfl); (case hw => rfl); (case hx => rfl); (case hc => first | exact (unhide LL).one | exact (unhide LL).two); simp only [Act.put, List.setIfInBounds_toArray, List.set_cons_succ, List.set_cons_zero]) | ((with_reducible apply load24v); (case ho => rfl); (case hw => rfl); (case hx => rfl); (case hc => first | exact (unhide LL).one | exact (unhide LL).two); simp only [Act.put, List.setIfInBounds_toArray, List.set_cons_succ, List.set_cons_zero]) | ((with_reducible apply load24g); (case ho => rfl); (case hw => rfl); (case hx => rfl); (case hc => first | exact (unhide LL).one | exact (unhide LL).two); simp only [Act.put, List.setIfInBounds_toArray, List.set_cons_succ, List.set_cons_zero]) | ((with_reducible apply load24s); (case ho => rfl); (case hw => rfl); (case hx => rfl); (case hc => first | exact (unhide LL).one | exact (unhide LL).two); simp only [Act.put, List.setIfInBounds_toArray, List.set_cons_succ, List.set_cons_zero]) | ((with_reducible apply load25w); (case ho => rfl); (case hw => rfl); (case hx => rfl); (case hc => first | exact (unhide LL).one | exact (unhide LL).two); simp only [Act.put, List.setIfInBounds_toArray, List.set_cons_succ, List.set_cons_zero]) | ((with_reducible apply load25e); (case ho => rfl); (case hw => rfl); (case hx => rfl); (case hc => first | exact (unhide LL).one | exact (unhide LL).two); simp only [Act.put, List.setIfInBounds_toArray, List.set_cons_succ, List.set_cons_zero]) | ((with_reducible apply load25c); (case ho => rfl); (case hw => rfl); (case hx => rfl); (case hc => first | exact (unhide LL).one | exact (unhide LL).two); simp only [Act.put, List.setIfInBounds_toArray, List.set_cons_succ, List.set_cons_zero]) | (go_at_call 93; refine (said_any _ _).mono ?_; rintro _ _ ⟨rfl, rfl⟩))
      go_ret
      exact ⟨rfl, (unhide LL).below⟩
  · have e3 : (sh == 3) = false := by simp [h3]
    rw [e3]
    go_enter Tryz.func136, Tryz.ntmps136
    cases q2
    · cases qe
      · go_wp2_with (first | go_skip | ((with_reducible apply load27); (case ho => rfl); (case hw => rfl); (case hx => rfl); (case hc => first | exact (unhide LL).one | exact (unhide LL).two); simp only [Act.put, List.setIfInBounds_toArray, List.set_cons_succ, List.set_cons_zero]) | ((with_reducible apply load24v); (case ho => rfl); (case hw => rfl); (case hx => rfl); (case hc => first | exact (unhide LL).one | exact (unhide LL).two); simp only [Act.put, List.setIfInBounds_toArray, List.set_cons_succ, List.set_cons_zero]) | ((with_reducible apply load24g); (case ho => rfl); (case hw => rfl); (case hx => rfl); (case hc => first | exact (unhide LL).one | exact (unhide LL).two); simp only [Act.put, List.setIfInBounds_toArray, List.set_cons_succ, List.set_cons_zero]) | ((with_reducible apply load24s); (case ho => rfl); (case hw => rfl); (case hx => rfl); (case hc => first | exact (unhide LL).one | exact (unhide LL).two); simp only [Act.put, List.setIfInBounds_toArray, List.set_cons_succ, List.set_cons_zero]) | ((with_reducible apply load25w); (case ho => rfl); (case hw => rfl); (case hx => rfl); (case hc => first | exact (unhide LL).one | exact (unhide LL).two); simp only [Act.put, List.setIfInBounds_toArray, List.set_cons_succ, List.set_cons_zero]) | ((with_reducible apply load25e); (case ho => rfl); (case hw => rfl); (case hx => rfl); (case hc => first | exact (unhide LL).one | exact (unhide LL).two); simp only [Act.put, List.setIfInBounds_toArray, List.set_cons_succ, List.set_cons_zero]) | ((with_reducible apply load25c); (case ho => rfl); (case hw => rfl); (case hx => rfl); (case hc => first | exact (unhide LL).one | exact (unhide LL).two); simp only [Act.put, List.setIfInBounds_toArray, List.set_cons_succ, List.set_cons_zero]) | (go_at_call 93; refine (said_any _ _).mono ?_; rintro _ _ ⟨rfl, rfl⟩))
        refine (unhide HTu _).mono ?_
        rintro _ w28 ⟨rfl, hb⟩
        replace LL := hide ((unhide LL).on hb)
        clear hb
        cases tu
        · go_wp2_with (first | go_skip | ((with_reducible apply load27); (case ho => rfl); (case hw => rfl); (case hx => rfl); (case hc => first | exact (unhide LL).one | exact (unhide LL).two); simp only [Act.put, List.setIfInBounds_toArray, List.set_cons_succ, List.set_cons_zero]) | ((with_reducible apply load24v); (case ho => rfl); (case hw => rfl); (case hx => rfl); (case hc => first | exact (unhide LL).one | exact (unhide LL).two); simp only [Act.put, List.setIfInBounds_toArray, List.set_cons_succ, List.set_cons_zero]) | ((with_reducible apply load24g); (case ho => rfl); (case hw => rfl); (case hx => rfl); (case hc => first | exact (unhide LL).one | exact (unhide LL).two); simp only [Act.put, List.setIfInBounds_toArray, List.set_cons_succ, List.set_cons_zero]) | ((with_reducible apply load24s); (case ho => rfl); (case hw => rfl); (case hx => rfl); (case hc => first | exact (unhide LL).one | exact (unhide LL).two); simp only [Act.put, List.setIfInBounds_toArray, List.set_cons_succ, List.set_cons_zero]) | ((with_reducible apply load25w); (case ho => rfl); (case hw => rfl); (case hx => rfl); (case hc => first | exact (unhide LL).one | exact (unhide LL).two); simp only [Act.put, List.setIfInBounds_toArray, List.set_cons_succ, List.set_cons_zero]) | ((with_reducible apply load25e); (case ho => rfl); (case hw => rfl); (case hx => rfl); (case hc => first | exact (unhide LL).one | exact (unhide LL).two); simp only [Act.put, List.setIfInBounds_toArray, List.set_cons_succ, List.set_cons_zero]) | ((with_reducible apply load25c); (case ho => rfl); (case hw => rfl); (case hx => rfl); (case hc => first | exact (unhide LL).one | exact (unhide LL).two); simp only [Act.put, List.setIfInBounds_toArray, List.set_cons_succ, List.set_cons_zero]) | (go_at_call 93; refine (said_any _ _).mono ?_; rintro _ _ ⟨rfl, rfl⟩))
          refine (unhide HSh _).mono ?_
          rintro _ w32 ⟨rfl, hb⟩
          replace LL := hide ((unhide LL).on hb)
          clear hb
          cases n1
          · go_wp2_with (first | go_skip | ((with_reducible apply load27); (case ho => rfl); (case hw => rfl); (case hx => rfl); (case hc => first | exact (unhide LL).one | exact (unhide LL).two); simp only [Act.put, List.setIfInBounds_toArray, List.set_cons_succ, List.set_cons_zero]) | ((with_reducible apply load24v); (case ho => rfl); (case hw => rfl); (case hx => rfl); (case hc => first | exact (unhide LL).one | exact (unhide LL).two); simp only [Act.put, List.setIfInBounds_toArray, List.set_cons_succ, List.set_cons_zero]) | ((with_reducible apply load24g); (case ho => rfl); (case hw => rfl); (case hx => rfl); (case hc => first | exact (unhide LL).one | exact (unhide LL).two); simp only [Act.put, List.setIfInBounds_toArray, List.set_cons_succ, List.set_cons_zero]) | ((with_reducible apply load24s); (case ho => rfl); (case hw => rfl); (case hx => rfl); (case hc => first | exact (unhide LL).one | exact (unhide LL).two); simp only [Act.put, List.setIfInBounds_toArray, List.set_cons_succ, List.set_cons_zero]) | ((with_reducible apply load25w); (case ho => rfl); (case hw => rfl); (case hx => rfl); (case hc => first | exact (unhide LL).one | exact (unhide LL).two); simp only [Act.put, List.setIfInBounds_toArray, List.set_cons_succ, List.set_cons_zero]) | ((with_reducible apply load25e); (case ho => rfl); (case hw => rfl); (case hx => rfl); (case hc => first | exact (unhide LL).one | exact (unhide LL).two); simp only [Act.put, List.setIfInBounds_toArray, List.set_cons_succ, List.set_cons_zero]) | ((with_reducible apply load25c); (case ho => rfl); (case hw => rfl); (case hx => rfl); (case hc => first | exact (unhide LL).one | exact (unhide LL).two); simp only [Act.put, List.setIfInBounds_toArray, List.set_cons_succ, List.set_cons_zero]) | (go_at_call 93; refine (said_any _ _).mono ?_; rintro _ _ ⟨rfl, rfl⟩))
            go_ret
            exact ⟨rfl, (unhide LL).below⟩
          · cases w2
            · go_wp2_with (first | go_skip | ((with_reducible apply load27); (case ho => rfl); (case hw => rfl); (case hx => rfl); (case hc => first | exact (unhide LL).one | exact (unhide LL).two); simp only [Act.put, List.setIfInBounds_toArray, List.set_cons_succ, List.set_cons_zero]) | ((with_reducible apply load24v); (case ho => rfl); (case hw => rfl); (case hx => rfl); (case hc => first | exact (unhide LL).one | exact (unhide LL).two); simp only [Act.put, List.setIfInBounds_toArray, List.set_cons_succ, List.set_cons_zero]) | ((with_reducible apply load24g); (case ho => rfl); (case hw => rfl); (case hx => rfl); (case hc => first | exact (unhide LL).one | exact (unhide LL).two); simp only [Act.put, List.setIfInBounds_toArray, List.set_cons_succ, List.set_cons_zero]) | ((with_reducible apply load24s); (case ho => rfl); (case hw => rfl); (case hx => rfl); (case hc => first | exact (unhide LL).one | exact (unhide LL).two); simp only [Act.put, List.setIfInBounds_toArray, List.set_cons_succ, List.set_cons_zero]) | ((with_reducible apply load25w); (case ho => rfl); (case hw => rfl); (case hx => rfl); (case hc => first | exact (unhide LL).one | exact (unhide LL).two); simp only [Act.put, List.setIfInBounds_toArray, List.set_cons_succ, List.set_cons_zero]) | ((with_reducible apply load25e); (case ho => rfl); (case hw => rfl); (case hx => rfl); (case hc => first | exact (unhide LL).one | exact (unhide LL).two); simp only [Act.put, List.setIfInBounds_toArray, List.set_cons_succ, List.set_cons_zero]) | ((with_reducible apply load25c); (case ho => rfl); (case hw => rfl); (case hx => rfl); (case hc => first | exact (unhide LL).one | exact (unhide LL).two); simp only [Act.put, List.setIfInBounds_toArray, List.set_cons_succ, List.set_cons_zero]) | (go_at_call 93; refine (said_any _ _).mono ?_; rintro _ _ ⟨rfl, rfl⟩))
              refine (unhide HV _ (tabs_below (unhide HT) (unhide LL).below)).mono ?_
              rintro _ w33 ⟨rfl, hb⟩
              replace LL := hide ((unhide LL).on hb)
              clear hb
              go_wp2_with (first | go_skip | ((with_reducible apply load27); (case ho => rfl); (case hw => rfl); (case hx => rfl); (case hc => first | exact (unhide LL).one | exact (unhide LL).two); simp only [Act.put, List.setIfInBounds_toArray, List.set_cons_succ, List.set_cons_zero]) | ((with_reducible apply load24v); (case ho => rfl); (case hw => rfl); (case hx => rfl); (case hc => first | exact (unhide LL).one | exact (unhide LL).two); simp only [Act.put, List.setIfInBounds_toArray, List.set_cons_succ, List.set_cons_zero]) | ((with_reducible apply load24g); (case ho => rfl); (case hw => rfl); (case hx => rfl); (case hc => first | exact (unhide LL).one | exact (unhide LL).two); simp only [Act.put, List.setIfInBounds_toArray, List.set_cons_succ, List.set_cons_zero]) | ((with_reducible apply load24s); (case ho => rfl); (case hw => rfl); (case hx => rfl); (case hc => first | exact (unhide LL).one | exact (unhide LL).two); simp only [Act.put, List.setIfInBounds_toArray, List.set_cons_succ, List.set_cons_zero]) | ((with_reducible apply load25w); (case ho => rfl); (case hw => rfl); (case hx => rfl); (case hc => first | exact (unhide LL).one | exact (unhide LL).two); simp only [Act.put, List.setIfInBounds_toArray, List.set_cons_succ, List.set_cons_zero]) | ((with_reducible apply load25e); (case ho => rfl); (case hw => rfl); (case hx => rfl); (case hc => first | exact (unhide LL).one | exact (unhide LL).two); simp only [Act.put, List.setIfInBounds_toArray, List.set_cons_succ, List.set_cons_zero]) | ((with_reducible apply load25c); (case ho => rfl); (case hw => rfl); (case hx => rfl); (case hc => first | exact (unhide LL).one | exact (unhide LL).two); simp only [Act.put, List.setIfInBounds_toArray, List.set_cons_succ, List.set_cons_zero]) | (go_at_call 93; refine (said_any _ _).mono ?_; rintro _ _ ⟨rfl, rfl⟩))
              go_ret
              exact ⟨rfl, (unhide LL).below⟩
            · go_wp2_with (first | go_skip | ((with_reducible apply load27); (case ho => rfl); (case hw => rfl); (case hx => rfl); (case hc => first | exact (unhide LL).one | exact (unhide LL).two); simp only [Act.put, List.setIfInBounds_toArray, List.set_cons_succ, List.set_cons_zero]) | ((with_reducible apply load24v); (case ho => rfl); (case hw => rfl); (case hx => rfl); (case hc => first | exact (unhide LL).one | exact (unhide LL).two); simp only [Act.put, List.setIfInBounds_toArray, List.set_cons_succ, List.set_cons_zero]) | ((with_reducible apply load24g); (case ho => rfl); (case hw => rfl); (case hx => rfl); (case hc => first | exact (unhide LL).one | exact (unhide LL).two); simp only [Act.put, List.setIfInBounds_toArray, List.set_cons_succ, List.set_cons_zero]) | ((with_reducible apply load24s); (case ho => rfl); (case hw => rfl); (case hx => rfl); (case hc => first | exact (unhide LL).one | exact (unhide LL).two); simp only [Act.put, List.setIfInBounds_toArray, List.set_cons_succ, List.set_cons_zero]) | ((with_reducible apply load25w); (case ho => rfl); (case hw => rfl); (case hx => rfl); (case hc => first | exact (unhide LL).one | exact (unhide LL).two); simp only [Act.put, List.setIfInBounds_toArray, List.set_cons_succ, List.set_cons_zero]) | ((with_reducible apply load25e); (case ho => rfl); (case hw => rfl); (case hx => rfl); (case hc => first | exact (unhide LL).one | exact (unhide LL).two); simp only [Act.put, List.setIfInBounds_toArray, List.set_cons_succ, List.set_cons_zero]) | ((with_reducible apply load25c); (case ho => rfl); (case hw => rfl); (case hx => rfl); (case hc => first | exact (unhide LL).one | exact (unhide LL).two); simp only [Act.put, List.setIfInBounds_toArray, List.set_cons_succ, List.set_cons_zero]) | (go_at_call 93; refine (said_any _ _).mono ?_; rintro _ _ ⟨rfl, rfl⟩))
              go_ret
              exact ⟨rfl, (unhide LL).below⟩
        · go_wp2_with (first | go_skip | ((with_reducible apply load27); (case ho => rfl); (case hw => rfl); (case hx => rfl); (case hc => first | exact (unhide LL).one | exact (unhide LL).two); simp only [Act.put, List.setIfInBounds_toArray, List.set_cons_succ, List.set_cons_zero]) | ((with_reducible apply load24v); (case ho => rfl); (case hw => rfl); (case hx => rfl); (case hc => first | exact (unhide LL).one | exact (unhide LL).two); simp only [Act.put, List.setIfInBounds_toArray, List.set_cons_succ, List.set_cons_zero]) | ((with_reducible apply load24g); (case ho => rfl); (case hw => rfl); (case hx => rfl); (case hc => first | exact (unhide LL).one | exact (unhide LL).two); simp only [Act.put, List.setIfInBounds_toArray, List.set_cons_succ, List.set_cons_zero]) | ((with_reducible apply load24s); (case ho => rfl); (case hw => rfl); (case hx => rfl); (case hc => first | exact (unhide LL).one | exact (unhide LL).two); simp only [Act.put, List.setIfInBounds_toArray, List.set_cons_succ, List.set_cons_zero]) | ((with_reducible apply load25w); (case ho => rfl); (case hw => rfl); (case hx => rfl); (case hc => first | exact (unhide LL).one | exact (unhide LL).two); simp only [Act.put, List.setIfInBounds_toArray, List.set_cons_succ, List.set_cons_zero]) | ((with_reducible apply load25e); (case ho => rfl); (case hw => rfl); (case hx => rfl); (case hc => first | exact (unhide LL).one | exact (unhide LL).two); simp only [Act.put, List.setIfInBounds_toArray, List.set_cons_succ, List.set_cons_zero]) | ((with_reducible apply load25c); (case ho => rfl); (case hw => rfl); (case hx => rfl); (case hc => first | exact (unhide LL).one | exact (unhide LL).two); simp only [Act.put, List.setIfInBounds_toArray, List.set_cons_succ, List.set_cons_zero]) | (go_at_call 93; refine (said_any _ _).mono ?_; rintro _ _ ⟨rfl, rfl⟩))
          go_ret
          exact ⟨rfl, (unhide LL).below⟩
      · cases qn
        · go_wp2_with (first | go_skip | ((with_reducible apply load27); (case ho => rfl); (case hw => rfl); (case hx => rfl); (case hc => first | exact (unhide LL).one | exact (unhide LL).two); simp only [Act.put, List.setIfInBounds_toArray, List.set_cons_succ, List.set_cons_zero]) | ((with_reducible apply load24v); (case ho => rfl); (case hw => rfl); (case hx => rfl); (case hc => first | exact (unhide LL).one | exact (unhide LL).two); simp only [Act.put, List.setIfInBounds_toArray, List.set_cons_succ, List.set_cons_zero]) | ((with_reducible apply load24g); (case ho => rfl); (case hw => rfl); (case hx => rfl); (case hc => first | exact (unhide LL).one | exact (unhide LL).two); simp only [Act.put, List.setIfInBounds_toArray, List.set_cons_succ, List.set_cons_zero]) | ((with_reducible apply load24s); (case ho => rfl); (case hw => rfl); (case hx => rfl); (case hc => first | exact (unhide LL).one | exact (unhide LL).two); simp only [Act.put, List.setIfInBounds_toArray, List.set_cons_succ, List.set_cons_zero]) | ((with_reducible apply load25w); (case ho => rfl); (case hw => rfl); (case hx => rfl); (case hc => first | exact (unhide LL).one | exact (unhide LL).two); simp only [Act.put, List.setIfInBounds_toArray, List.set_cons_succ, List.set_cons_zero]) | ((with_reducible apply load25e); (case ho => rfl); (case hw => rfl); (case hx => rfl); (case hc => first | exact (unhide LL).one | exact (unhide LL).two); simp only [Act.put, List.setIfInBounds_toArray, List.set_cons_succ, List.set_cons_zero]) | ((with_reducible apply load25c); (case ho => rfl); (case hw => rfl); (case hx => rfl); (case hc => first | exact (unhide LL).one | exact (unhide LL).two); simp only [Act.put, List.setIfInBounds_toArray, List.set_cons_succ, List.set_cons_zero]) | (go_at_call 93; refine (said_any _ _).mono ?_; rintro _ _ ⟨rfl, rfl⟩))
          refine (unhide HTu _).mono ?_
          rintro _ w34 ⟨rfl, hb⟩
          replace LL := hide ((unhide LL).on hb)
          clear hb
          cases tu
          · go_wp2_with (first | go_skip | ((with_reducible apply load27); (case ho => rfl); (case hw => rfl); (case hx => rfl); (case hc => first | exact (unhide LL).one | exact (unhide LL).two); simp only [Act.put, List.setIfInBounds_toArray, List.set_cons_succ, List.set_cons_zero]) | ((with_reducible apply load24v); (case ho => rfl); (case hw => rfl); (case hx => rfl); (case hc => first | exact (unhide LL).one | exact (unhide LL).two); simp only [Act.put, List.setIfInBounds_toArray, List.set_cons_succ, List.set_cons_zero]) | ((with_reducible apply load24g); (case ho => rfl); (case hw => rfl); (case hx => rfl); (case hc => first | exact (unhide LL).one | exact (unhide LL).two); simp only [Act.put, List.setIfInBounds_toArray, List.set_cons_succ, List.set_cons_zero]) | ((with_reducible apply load24s); (case ho => rfl); (case hw => rfl); (case hx => rfl); (case hc => first | exact (unhide LL).one | exact (unhide LL).two); simp only [Act.put, List.setIfInBounds_toArray, List.set_cons_succ, List.set_cons_zero]) | ((with_reducible apply load25w); (case ho => rfl); (case hw => rfl); (case hx => rfl); (case hc => first | exact (unhide LL).one | exact (unhide LL).two); simp only [Act.put, List.setIfInBounds_toArray, List.set_cons_succ, List.set_cons_zero]) | ((with_reducible apply load25e); (case ho => rfl); (case hw => rfl); (case hx => rfl); (case hc => first | exact (unhide LL).one | exact (unhide LL).two); simp only [Act.put, List.setIfInBounds_toArray, List.set_cons_succ, List.set_cons_zero]) | ((with_reducible apply load25c); (case ho => rfl); (case hw => rfl); (case hx => rfl); (case hc => first | exact (unhide LL).one | exact (unhide LL).two); simp only [Act.put, List.setIfInBounds_toArray, List.set_cons_succ, List.set_cons_zero]) | (go_at_call 93; refine (said_any _ _).mono ?_; rintro _ _ ⟨rfl, rfl⟩))
            refine (unhide HSh _).mono ?_
            rintro _ w38 ⟨rfl, hb⟩
            replace LL := hide ((unhide LL).on hb)
            clear hb
            cases n1
            · go_wp2_with (first | go_skip | ((with_reducible apply load27); (case ho => rfl); (case hw => rfl); (case hx => rfl); (case hc => first | exact (unhide LL).one | exact (unhide LL).two); simp only [Act.put, List.setIfInBounds_toArray, List.set_cons_succ, List.set_cons_zero]) | ((with_reducible apply load24v); (case ho => rfl); (case hw => rfl); (case hx => rfl); (case hc => first | exact (unhide LL).one | exact (unhide LL).two); simp only [Act.put, List.setIfInBounds_toArray, List.set_cons_succ, List.set_cons_zero]) | ((with_reducible apply load24g); (case ho => rfl); (case hw => rfl); (case hx => rfl); (case hc => first | exact (unhide LL).one | exact (unhide LL).two); simp only [Act.put, List.setIfInBounds_toArray, List.set_cons_succ, List.set_cons_zero]) | ((with_reducible apply load24s); (case ho => rfl); (case hw => rfl); (case hx => rfl); (case hc => first | exact (unhide LL).one | exact (unhide LL).two); simp only [Act.put, List.setIfInBounds_toArray, List.set_cons_succ, List.set_cons_zero]) | ((with_reducible apply load25w); (case ho => rfl); (case hw => rfl); (case hx => rfl); (case hc => first | exact (unhide LL).one | exact (unhide LL).two); simp only [Act.put, List.setIfInBounds_toArray, List.set_cons_succ, List.set_cons_zero]) | ((with_reducible apply load25e); (case ho => rfl); (case hw => rfl); (case hx => rfl); (case hc => first | exact (unhide LL).one | exact (unhide LL).two); simp only [Act.put, List.setIfInBounds_toArray, List.set_cons_succ, List.set_cons_zero]) | ((with_reducible apply load25c); (case ho => rfl); (case hw => rfl); (case hx => rfl); (case hc => first | exact (unhide LL).one | exact (unhide LL).two); simp only [Act.put, List.setIfInBounds_toArray, List.set_cons_succ, List.set_cons_zero]) | (go_at_call 93; refine (said_any _ _).mono ?_; rintro _ _ ⟨rfl, rfl⟩))
              go_ret
              exact ⟨rfl, (unhide LL).below⟩
            · cases w2
              · go_wp2_with (first | go_skip | ((with_reducible apply load27); (case ho => rfl); (case hw => rfl); (case hx => rfl); (case hc => first | exact (unhide LL).one | exact (unhide LL).two); simp only [Act.put, List.setIfInBounds_toArray, List.set_cons_succ, List.set_cons_zero]) | ((with_reducible apply load24v); (case ho => rfl); (case hw => rfl); (case hx => rfl); (case hc => first | exact (unhide LL).one | exact (unhide LL).two); simp only [Act.put, List.setIfInBounds_toArray, List.set_cons_succ, List.set_cons_zero]) | ((with_reducible apply load24g); (case ho => rfl); (case hw => rfl); (case hx => rfl); (case hc => first | exact (unhide LL).one | exact (unhide LL).two); simp only [Act.put, List.setIfInBounds_toArray, List.set_cons_succ, List.set_cons_zero]) | ((with_reducible apply load24s); (case ho => rfl); (case hw => rfl); (case hx => rfl); (case hc => first | exact (unhide LL).one | exact (unhide LL).two); simp only [Act.put, List.setIfInBounds_toArray, List.set_cons_succ, List.set_cons_zero]) | ((with_reducible apply load25w); (case ho => rfl); (case hw => rfl); (case hx => rfl); (case hc => first | exact (unhide LL).one | exact (unhide LL).two); simp only [Act.put, List.setIfInBounds_toArray, List.set_cons_succ, List.set_cons_zero]) | ((with_reducible apply load25e); (case ho => rfl); (case hw => rfl); (case hx => rfl); (case hc => first | exact (unhide LL).one | exact (unhide LL).two); simp only [Act.put, List.setIfInBounds_toArray, List.set_cons_succ, List.set_cons_zero]) | ((with_reducible apply load25c); (case ho => rfl); (case hw => rfl); (case hx => rfl); (case hc => first | exact (unhide LL).one | exact (unhide LL).two); simp only [Act.put, List.setIfInBounds_toArray, List.set_cons_succ, List.set_cons_zero]) | (go_at_call 93; refine (said_any _ _).mono ?_; rintro _ _ ⟨rfl, rfl⟩))
                refine (unhide HV _ (tabs_below (unhide HT) (unhide LL).below)).mono ?_
                rintro _ w39 ⟨rfl, hb⟩
                replace LL := hide ((unhide LL).on hb)
                clear hb
                go_wp2_with (first | go_skip | ((with_reducible apply load27); (case ho => rfl); (case hw => rfl); (case hx => rfl); (case hc => first | exact (unhide LL).one | exact (unhide LL).two); simp only [Act.put, List.setIfInBounds_toArray, List.set_cons_succ, List.set_cons_zero]) | ((with_reducible apply load24v); (case ho => rfl); (case hw => rfl); (case hx => rfl); (case hc => first | exact (unhide LL).one | exact (unhide LL).two); simp only [Act.put, List.setIfInBounds_toArray, List.set_cons_succ, List.set_cons_zero]) | ((with_reducible apply load24g); (case ho => rfl); (case hw => rfl); (case hx => rfl); (case hc => first | exact (unhide LL).one | exact (unhide LL).two); simp only [Act.put, List.setIfInBounds_toArray, List.set_cons_succ, List.set_cons_zero]) | ((with_reducible apply load24s); (case ho => rfl); (case hw => rfl); (case hx => rfl); (case hc => first | exact (unhide LL).one | exact (unhide LL).two); simp only [Act.put, List.setIfInBounds_toArray, List.set_cons_succ, List.set_cons_zero]) | ((with_reducible apply load25w); (case ho => rfl); (case hw => rfl); (case hx => rfl); (case hc => first | exact (unhide LL).one | exact (unhide LL).two); simp only [Act.put, List.setIfInBounds_toArray, List.set_cons_succ, List.set_cons_zero]) | ((with_reducible apply load25e); (case ho => rfl); (case hw => rfl); (case hx => rfl); (case hc => first | exact (unhide LL).one | exact (unhide LL).two); simp only [Act.put, List.setIfInBounds_toArray, List.set_cons_succ, List.set_cons_zero]) | ((with_reducible apply load25c); (case ho => rfl); (case hw => rfl); (case hx => rfl); (case hc => first | exact (unhide LL).one | exact (unhide LL).two); simp only [Act.put, List.setIfInBounds_toArray, List.set_cons_succ, List.set_cons_zero]) | (go_at_call 93; refine (said_any _ _).mono ?_; rintro _ _ ⟨rfl, rfl⟩))
                go_ret
                exact ⟨rfl, (unhide LL).below⟩
              · go_wp2_with (first | go_skip | ((with_reducible apply load27); (case ho => rfl); (case hw => rfl); (case hx => rfl); (case hc => first | exact (unhide LL).one | exact (unhide LL).two); simp only [Act.put, List.setIfInBounds_toArray, List.set_cons_succ, List.set_cons_zero]) | ((with_reducible apply load24v); (case ho => rfl); (case hw => rfl); (case hx => rfl); (case hc => first | exact (unhide LL).one | exact (unhide LL).two); simp only [Act.put, List.setIfInBounds_toArray, List.set_cons_succ, List.set_cons_zero]) | ((with_reducible apply load24g); (case ho => rfl); (case hw => rfl); (case hx => rfl); (case hc => first | exact (unhide LL).one | exact (unhide LL).two); simp only [Act.put, List.setIfInBounds_toArray, List.set_cons_succ, List.set_cons_zero]) | ((with_reducible apply load24s); (case ho => rfl); (case hw => rfl); (case hx => rfl); (case hc => first | exact (unhide LL).one | exact (unhide LL).two); simp only [Act.put, List.setIfInBounds_toArray, List.set_cons_succ, List.set_cons_zero]) | ((with_reducible apply load25w); (case ho => rfl); (case hw => rfl); (case hx => rfl); (case hc => first | exact (unhide LL).one | exact (unhide LL).two); simp only [Act.put, List.setIfInBounds_toArray, List.set_cons_succ, List.set_cons_zero]) | ((with_reducible apply load25e); (case ho => rfl); (case hw => rfl); (case hx => rfl); (case hc => first | exact (unhide LL).one | exact (unhide LL).two); simp only [Act.put, List.setIfInBounds_toArray, List.set_cons_succ, List.set_cons_zero]) | ((with_reducible apply load25c); (case ho => rfl); (case hw => rfl); (case hx => rfl); (case hc => first | exact (unhide LL).one | exact (unhide LL).two); simp only [Act.put, List.setIfInBounds_toArray, List.set_cons_succ, List.set_cons_zero]) | (go_at_call 93; refine (said_any _ _).mono ?_; rintro _ _ ⟨rfl, rfl⟩))
                go_ret
                exact ⟨rfl, (unhide LL).below⟩
          · go_wp2_with (first | go_skip | ((with_reducible apply load27); (case ho => rfl); (case hw => rfl); (case hx => rfl); (case hc => first | exact (unhide LL).one | exact (unhide LL).two); simp only [Act.put, List.setIfInBounds_toArray, List.set_cons_succ, List.set_cons_zero]) | ((with_reducible apply load24v); (case ho => rfl); (case hw => rfl); (case hx => rfl); (case hc => first | exact (unhide LL).one | exact (unhide LL).two); simp only [Act.put, List.setIfInBounds_toArray, List.set_cons_succ, List.set_cons_zero]) | ((with_reducible apply load24g); (case ho => rfl); (case hw => rfl); (case hx => rfl); (case hc => first | exact (unhide LL).one | exact (unhide LL).two); simp only [Act.put, List.setIfInBounds_toArray, List.set_cons_succ, List.set_cons_zero]) | ((with_reducible apply load24s); (case ho => rfl); (case hw => rfl); (case hx => rfl); (case hc => first | exact (unhide LL).one | exact (unhide LL).two); simp only [Act.put, List.setIfInBounds_toArray, List.set_cons_succ, List.set_cons_zero]) | ((with_reducible apply load25w); (case ho => rfl); (case hw => rfl); (case hx => rfl); (case hc => first | exact (unhide LL).one | exact (unhide LL).two); simp only [Act.put, List.setIfInBounds_toArray, List.set_cons_succ, List.set_cons_zero]) | ((with_reducible apply load25e); (case ho => rfl); (case hw => rfl); (case hx => rfl); (case hc => first | exact (unhide LL).one | exact (unhide LL).two); simp only [Act.put, List.setIfInBounds_toArray, List.set_cons_succ, List.set_cons_zero]) | ((with_reducible apply load25c); (case ho => rfl); (case hw => rfl); (case hx => rfl); (case hc => first | exact (unhide LL).one | exact (unhide LL).two); simp only [Act.put, List.setIfInBounds_toArray, List.set_cons_succ, List.set_cons_zero]) | (go_at_call 93; refine (said_any _ _).mono ?_; rintro _ _ ⟨rfl, rfl⟩))
            go_ret
            exact ⟨rfl, (unhide LL).below⟩
        · go_wp2_with (first | go_skip | ((with_reducible apply load27); (case ho => rfl); (case hw => rfl); (case hx => rfl); (case hc => first | exact (unhide LL).one | exact (unhide LL).two); simp only [Act.put, List.setIfInBounds_toArray, List.set_cons_succ, List.set_cons_zero]) | ((with_reducible apply load24v); (case ho => rfl); (case hw => rfl); (case hx => rfl); (case hc => first | exact (unhide LL).one | exact (unhide LL).two); simp only [Act.put, List.setIfInBounds_toArray, List.set_cons_succ, List.set_cons_zero]) | ((with_reducible apply load24g); (case ho => rfl); (case hw => rfl); (case hx => rfl); (case hc => first | exact (unhide LL).one | exact (unhide LL).two); simp only [Act.put, List.setIfInBounds_toArray, List.set_cons_succ, List.set_cons_zero]) | ((with_reducible apply load24s); (case ho => rfl); (case hw => rfl); (case hx => rfl); (case hc => first | exact (unhide LL).one | exact (unhide LL).two); simp only [Act.put, List.setIfInBounds_toArray, List.set_cons_succ, List.set_cons_zero]) | ((with_reducible apply load25w); (case ho => rfl); (case hw => rfl); (case hx => rfl); (case hc => first | exact (unhide LL).one | exact (unhide LL).two); simp only [Act.put, List.setIfInBounds_toArray, List.set_cons_succ, List.set_cons_zero]) | ((with_reducible apply load25e); (case ho => rfl); (case hw => rfl); (case hx => rfl); (case hc => first | exact (unhide LL).one | exact (unhide LL).two); simp only [Act.put, List.setIfInBounds_toArray, List.set_cons_succ, List.set_cons_zero]) | ((with_reducible apply load25c); (case ho => rfl); (case hw => rfl); (case hx => rfl); (case hc => first | exact (unhide LL).one | exact (unhide LL).two); simp only [Act.put, List.setIfInBounds_toArray, List.set_cons_succ, List.set_cons_zero]) | (go_at_call 93; refine (said_any _ _).mono ?_; rintro _ _ ⟨rfl, rfl⟩))
          go_ret
          exact ⟨rfl, (unhide LL).below⟩
    · go_wp2_with (first | go_skip | ((with_reducible apply load27); (case ho => rfl); (case hw => rfl); (case hx => rfl); (case hc => first | exact (unhide LL).one | exact (unhide LL).two); simp only [Act.put, List.setIfInBounds_toArray, List.set_cons_succ, List.set_cons_zero]) | ((with_reducible apply load24v); (case ho => rfl); (case hw => rfl); (case hx => rfl); (case hc => first | exact (unhide LL).one | exact (unhide LL).two); simp only [Act.put, List.setIfInBounds_toArray, List.set_cons_succ, List.set_cons_zero]) | ((with_reducible apply load24g); (case ho => rfl); (case hw => rfl); (case hx => rfl); (case hc => first | exact (unhide LL).one | exact (unhide LL).two); simp only [Act.put, List.setIfInBounds_toArray, List.set_cons_succ, List.set_cons_zero]) | ((with_reducible apply load24s); (case ho => rfl); (case hw => rfl); (case hx => rfl); (case hc => first | exact (unhide LL).one | exact (unhide LL).two); simp only [Act.put, List.setIfInBounds_toArray, List.set_cons_succ, List.set_cons_zero]) | ((with_reducible apply load25w); (case ho => rfl); (case hw => rfl); (case hx => rfl); (case hc => first | exact (unhide LL).one | exact (unhide LL).two); simp only [Act.put, List.setIfInBounds_toArray, List.set_cons_succ, List.set_cons_zero]) | ((with_reducible apply load25e); (case ho => rfl); (case hw => rfl); (case hx => rfl); (case hc => first | exact (unhide LL).one | exact (unhide LL).two); simp only [Act.put, List.setIfInBounds_toArray, List.set_cons_succ, List.set_cons_zero]) | ((with_reducible apply load25c); (case ho => rfl); (case hw => rfl); (case hx => rfl); (case hc => first | exact (unhide LL).one | exact (unhide LL).two); simp only [Act.put, List.setIfInBounds_toArray, List.set_cons_succ, List.set_cons_zero]) | (go_at_call 93; refine (said_any _ _).mono ?_; rintro _ _ ⟨rfl, rfl⟩))
      go_ret
      exact ⟨rfl, (unhide LL).below⟩
