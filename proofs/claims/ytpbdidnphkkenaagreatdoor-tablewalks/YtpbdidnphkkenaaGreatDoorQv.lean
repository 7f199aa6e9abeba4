import Derived.Test.YtpbdidnphkkenaaGreatDoorQu
set_option linter.all false
namespace Go.Proofs.YtpbdidnphkkenaaGreatDoor
set_option maxHeartbeats 1000000
section
open Go Go.Proofs Go.Maps Go.RowKit
attribute [local go_sem] bits_run run_store_float
theorem below_dn {a w : World} {B : Nat} (h : Below B a w) (n : Nat) : Below B a (w.drewN n) := ⟨h.os, h.tape, h.output, h.size, h.block⟩
set_option maxRecDepth 100000 in
theorem eq40 (v : VV) (w : World) : Calls Tryz.prog 40 #[v.agg, v.agg] w fun e w' => e = .returned (.bool true) ∧ Below w.heap.size w w' := by
  obtain ⟨k, b, x, s, i⟩ := v
  unfold VV.agg
  dsimp only
  go_enter Tryz.func40, Tryz.ntmps40
  go_wp2
  go_quiet (fail)
  go_wp2
  all_goals
    go_ret
    refine ⟨?_, below_dn (two_below w _ _ _ _) _⟩
    simp [*]
theorem row36 : ∃ d, Tryz.prog.underlying 36 = some d ∧ d.isRow = true := ⟨_, Tryz.underlying36, rfl⟩
theorem siz36 : (Tryz.prog.info? 36).map (·.size) = some 5 := by kernel_rfl
set_option maxRecDepth 100000 in
theorem sameDesc21 (d : DD) (w : World) : Calls Tryz.prog 21 #[d.agg, d.agg] w fun e w' => e = .returned (.bool true) ∧ Below w.heap.size w w' := by
  have LL := hide (Hq.two w [] d.cs d.cs 39 39 (Nat.succ_pos _) (Nat.succ_pos _))
  have E1 := hide (fun X => eq40 d.v X)
  have E2 := hide (fun X => eq40 d.g X)
  have E3 := hide (fun X => eq40 d.s X)
  rw [show d.agg = .agg d.cs.toArray from rfl]
  go_enter Tryz.func21, Tryz.ntmps21
  go_wp2_with (first | go_skip | ((refine rd (by rfl) (ex_loadN (B := w.heap.size) (p := 0) (cs := d.cs) (vs := d.v.cs) 36 5 row36 siz36 rfl rfl ((unhide LL).get 0 rfl) rfl rfl) ?_); simp only [Act.put, nzA, nzB, nzC]) | ((refine rd (by rfl) (ex_loadN (B := w.heap.size) (p := 5) (cs := d.cs) (vs := d.g.cs) 36 5 row36 siz36 rfl rfl ((unhide LL).get 0 rfl) rfl rfl) ?_); simp only [Act.put, nzA, nzB, nzC]) | ((refine rd (by rfl) (ex_loadN (B := w.heap.size) (p := 10) (cs := d.cs) (vs := d.s.cs) 36 5 row36 siz36 rfl rfl ((unhide LL).get 0 rfl) rfl rfl) ?_); simp only [Act.put, nzA, nzB, nzC]) | ((refine rd (by rfl) (ex_load1 (B := w.heap.size) (p := 15) (cs := d.cs) (v := .int .i64 d.w) 37 Tryz.isAgg37 rfl rfl ((unhide LL).get 0 rfl) rfl) ?_); simp only [Act.put, nzA, nzB, nzC]) | ((refine rd (by rfl) (ex_load1 (B := w.heap.size) (p := 16) (cs := d.cs) (v := .int .i64 d.e) 37 Tryz.isAgg37 rfl rfl ((unhide LL).get 0 rfl) rfl) ?_); simp only [Act.put, nzA, nzB, nzC]) | ((refine rd (by rfl) (ex_load1 (B := w.heap.size) (p := 17) (cs := d.cs) (v := .int .i64 d.c) 37 Tryz.isAgg37 rfl rfl ((unhide LL).get 0 rfl) rfl) ?_); simp only [Act.put, nzA, nzB, nzC]) | ((refine rd (by rfl) (ex_loadN (B := w.heap.size + 1) (p := 0) (cs := d.cs) (vs := d.v.cs) 36 5 row36 siz36 rfl rfl ((unhide LL).get 1 rfl) rfl rfl) ?_); simp only [Act.put, nzA, nzB, nzC]) | ((refine rd (by rfl) (ex_loadN (B := w.heap.size + 1) (p := 5) (cs := d.cs) (vs := d.g.cs) 36 5 row36 siz36 rfl rfl ((unhide LL).get 1 rfl) rfl rfl) ?_); simp only [Act.put, nzA, nzB, nzC]) | ((refine rd (by rfl) (ex_loadN (B := w.heap.size + 1) (p := 10) (cs := d.cs) (vs := d.s.cs) 36 5 row36 siz36 rfl rfl ((unhide LL).get 1 rfl) rfl rfl) ?_); simp only [Act.put, nzA, nzB, nzC]) | ((refine rd (by rfl) (ex_load1 (B := w.heap.size + 1) (p := 15) (cs := d.cs) (v := .int .i64 d.w) 37 Tryz.isAgg37 rfl rfl ((unhide LL).get 1 rfl) rfl) ?_); simp only [Act.put, nzA, nzB, nzC]) | ((refine rd (by rfl) (ex_load1 (B := w.heap.size + 1) (p := 16) (cs := d.cs) (v := .int .i64 d.e) 37 Tryz.isAgg37 rfl rfl ((unhide LL).get 1 rfl) rfl) ?_); simp only [Act.put, nzA, nzB, nzC]) | ((refine rd (by rfl) (ex_load1 (B := w.heap.size + 1) (p := 17) (cs := d.cs) (v := .int .i64 d.c) 37 Tryz.isAgg37 rfl rfl ((unhide LL).get 1 rfl) rfl) ?_); simp only [Act.put, nzA, nzB, nzC]))
  refine ((unhide E1) _).mono ?_
  rintro _ w1 ⟨rfl, hb⟩
  replace LL := hide ((unhide LL).on hb)
  clear hb
  go_wp2_with (first | go_skip | ((refine rd (by rfl) (ex_loadN (B := w.heap.size) (p := 0) (cs := d.cs) (vs := d.v.cs) 36 5 row36 siz36 rfl rfl ((unhide LL).get 0 rfl) rfl rfl) ?_); simp only [Act.put, nzA, nzB, nzC]) | ((refine rd (by rfl) (ex_loadN (B := w.heap.size) (p := 5) (cs := d.cs) (vs := d.g.cs) 36 5 row36 siz36 rfl rfl ((unhide LL).get 0 rfl) rfl rfl) ?_); simp only [Act.put, nzA, nzB, nzC]) | ((refine rd (by rfl) (ex_loadN (B := w.heap.size) (p := 10) (cs := d.cs) (vs := d.s.cs) 36 5 row36 siz36 rfl rfl ((unhide LL).get 0 rfl) rfl rfl) ?_); simp only [Act.put, nzA, nzB, nzC]) | ((refine rd (by rfl) (ex_load1 (B := w.heap.size) (p := 15) (cs := d.cs) (v := .int .i64 d.w) 37 Tryz.isAgg37 rfl rfl ((unhide LL).get 0 rfl) rfl) ?_); simp only [Act.put, nzA, nzB, nzC]) | ((refine rd (by rfl) (ex_load1 (B := w.heap.size) (p := 16) (cs := d.cs) (v := .int .i64 d.e) 37 Tryz.isAgg37 rfl rfl ((unhide LL).get 0 rfl) rfl) ?_); simp only [Act.put, nzA, nzB, nzC]) | ((refine rd (by rfl) (ex_load1 (B := w.heap.size) (p := 17) (cs := d.cs) (v := .int .i64 d.c) 37 Tryz.isAgg37 rfl rfl ((unhide LL).get 0 rfl) rfl) ?_); simp only [Act.put, nzA, nzB, nzC]) | ((refine rd (by rfl) (ex_loadN (B := w.heap.size + 1) (p := 0) (cs := d.cs) (vs := d.v.cs) 36 5 row36 siz36 rfl rfl ((unhide LL).get 1 rfl) rfl rfl) ?_); simp only [Act.put, nzA, nzB, nzC]) | ((refine rd (by rfl) (ex_loadN (B := w.heap.size + 1) (p := 5) (cs := d.cs) (vs := d.g.cs) 36 5 row36 siz36 rfl rfl ((unhide LL).get 1 rfl) rfl rfl) ?_); simp only [Act.put, nzA, nzB, nzC]) | ((refine rd (by rfl) (ex_loadN (B := w.heap.size + 1) (p := 10) (cs := d.cs) (vs := d.s.cs) 36 5 row36 siz36 rfl rfl ((unhide LL).get 1 rfl) rfl rfl) ?_); simp only [Act.put, nzA, nzB, nzC]) | ((refine rd (by rfl) (ex_load1 (B := w.heap.size + 1) (p := 15) (cs := d.cs) (v := .int .i64 d.w) 37 Tryz.isAgg37 rfl rfl ((unhide LL).get 1 rfl) rfl) ?_); simp only [Act.put, nzA, nzB, nzC]) | ((refine rd (by rfl) (ex_load1 (B := w.heap.size + 1) (p := 16) (cs := d.cs) (v := .int .i64 d.e) 37 Tryz.isAgg37 rfl rfl ((unhide LL).get 1 rfl) rfl) ?_); simp only [Act.put, nzA, nzB, nzC]) | ((refine rd (by rfl) (ex_load1 (B := w.heap.size + 1) (p := 17) (cs := d.cs) (v := .int .i64 d.c) 37 Tryz.isAgg37 rfl rfl ((unhide LL).get 1 rfl) rfl) ?_); simp only [Act.put, nzA, nzB, nzC]))
  refine ((unhide E2) _).mono ?_
  rintro _ w2 ⟨rfl, hb⟩
  replace LL := hide ((unhide LL).on hb)
  clear hb
  go_wp2_with (first | go_skip | ((refine rd (by rfl) (ex_loadN (B := w.heap.size) (p := 0) (cs := d.cs) (vs := d.v.cs) 36 5 row36 siz36 rfl rfl ((unhide LL).get 0 rfl) rfl rfl) ?_); simp only [Act.put, nzA, nzB, nzC]) | ((refine rd (by rfl) (ex_loadN (B := w.heap.size) (p := 5) (cs := d.cs) (vs := d.g.cs) 36 5 row36 siz36 rfl rfl ((unhide LL).get 0 rfl) rfl rfl) ?_); simp only [Act.put, nzA, nzB, nzC]) | ((refine rd (by rfl) (ex_loadN (B := w.heap.size) (p := 10) (cs := d.cs) (vs := d.s.cs) 36 5 row36 siz36 rfl rfl ((unhide LL).get 0 rfl) rfl rfl) ?_); simp only [Act.put, nzA, nzB, nzC]) | ((refine rd (by rfl) (ex_load1 (B := w.heap.size) (p := 15) (cs := d.cs) (v := .int .i64 d.w) 37 Tryz.isAgg37 rfl rfl ((unhide LL).get 0 rfl) rfl) ?_); simp only [Act.put, nzA, nzB, nzC]) | ((refine rd (by rfl) (ex_load1 (B := w.heap.size) (p := 16) (cs := d.cs) (v := .int .i64 d.e) 37 Tryz.isAgg37 rfl rfl ((unhide LL).get 0 rfl) rfl) ?_); simp only [Act.put, nzA, nzB, nzC]) | ((refine rd (by rfl) (ex_load1 (B := w.heap.size) (p := 17) (cs := d.cs) (v := .int .i64 d.c) 37 Tryz.isAgg37 rfl rfl ((unhide LL).get 0 rfl) rfl) ?_); simp only [Act.put, nzA, nzB, nzC]) | ((refine rd (by rfl) (ex_loadN (B := w.heap.size + 1) (p := 0) (cs := d.cs) (vs := d.v.cs) 36 5 row36 siz36 rfl rfl ((unhide LL).get 1 rfl) rfl rfl) ?_); simp only [Act.put, nzA, nzB, nzC]) | ((refine rd (by rfl) (ex_loadN (B := w.heap.size + 1) (p := 5) (cs := d.cs) (vs := d.g.cs) 36 5 row36 siz36 rfl rfl ((unhide LL).get 1 rfl) rfl rfl) ?_); simp only [Act.put, nzA, nzB, nzC]) | ((refine rd (by rfl) (ex_loadN (B := w.heap.size + 1) (p := 10) (cs := d.cs) (vs := d.s.cs) 36 5 row36 siz36 rfl rfl ((unhide LL).get 1 rfl) rfl rfl) ?_); simp only [Act.put, nzA, nzB, nzC]) | ((refine rd (by rfl) (ex_load1 (B := w.heap.size + 1) (p := 15) (cs := d.cs) (v := .int .i64 d.w) 37 Tryz.isAgg37 rfl rfl ((unhide LL).get 1 rfl) rfl) ?_); simp only [Act.put, nzA, nzB, nzC]) | ((refine rd (by rfl) (ex_load1 (B := w.heap.size + 1) (p := 16) (cs := d.cs) (v := .int .i64 d.e) 37 Tryz.isAgg37 rfl rfl ((unhide LL).get 1 rfl) rfl) ?_); simp only [Act.put, nzA, nzB, nzC]) | ((refine rd (by rfl) (ex_load1 (B := w.heap.size + 1) (p := 17) (cs := d.cs) (v := .int .i64 d.c) 37 Tryz.isAgg37 rfl rfl ((unhide LL).get 1 rfl) rfl) ?_); simp only [Act.put, nzA, nzB, nzC]))
  refine ((unhide E3) _).mono ?_
  rintro _ w3 ⟨rfl, hb⟩
  replace LL := hide ((unhide LL).on hb)
  clear hb
  go_wp2_with (first | go_skip | ((refine rd (by rfl) (ex_loadN (B := w.heap.size) (p := 0) (cs := d.cs) (vs := d.v.cs) 36 5 row36 siz36 rfl rfl ((unhide LL).get 0 rfl) rfl rfl) ?_); simp only [Act.put, nzA, nzB, nzC]) | ((refine rd (by rfl) (ex_loadN (B := w.heap.size) (p := 5) (cs := d.cs) (vs := d.g.cs) 36 5 row36 siz36 rfl rfl ((unhide LL).get 0 rfl) rfl rfl) ?_); simp only [Act.put, nzA, nzB, nzC]) | ((refine rd (by rfl) (ex_loadN (B := w.heap.size) (p := 10) (cs := d.cs) (vs := d.s.cs) 36 5 row36 siz36 rfl rfl ((unhide LL).get 0 rfl) rfl rfl) ?_); simp only [Act.put, nzA, nzB, nzC]) | ((refine rd (by rfl) (ex_load1 (B := w.heap.size) (p := 15) (cs := d.cs) (v := .int .i64 d.w) 37 Tryz.isAgg37 rfl rfl ((unhide LL).get 0 rfl) rfl) ?_); simp only [Act.put, nzA, nzB, nzC]) | ((refine rd (by rfl) (ex_load1 (B := w.heap.size) (p := 16) (cs := d.cs) (v := .int .i64 d.e) 37 Tryz.isAgg37 rfl rfl ((unhide LL).get 0 rfl) rfl) ?_); simp only [Act.put, nzA, nzB, nzC]) | ((refine rd (by rfl) (ex_load1 (B := w.heap.size) (p := 17) (cs := d.cs) (v := .int .i64 d.c) 37 Tryz.isAgg37 rfl rfl ((unhide LL).get 0 rfl) rfl) ?_); simp only [Act.put, nzA, nzB, nzC]) | ((refine rd (by rfl) (ex_loadN (B := w.heap.size + 1) (p := 0) (cs := d.cs) (vs := d.v.cs) 36 5 row36 siz36 rfl rfl ((unhide LL).get 1 rfl) rfl rfl) ?_); simp only [Act.put, nzA, nzB, nzC]) | ((refine rd (by rfl) (ex_loadN (B := w.heap.size + 1) (p := 5) (cs := d.cs) (vs := d.g.cs) 36 5 row36 siz36 rfl rfl ((unhide LL).get 1 rfl) rfl rfl) ?_); simp only [Act.put, nzA, nzB, nzC]) | ((refine rd (by rfl) (ex_loadN (B := w.heap.size + 1) (p := 10) (cs := d.cs) (vs := d.s.cs) 36 5 row36 siz36 rfl rfl ((unhide LL).get 1 rfl) rfl rfl) ?_); simp only [Act.put, nzA, nzB, nzC]) | ((refine rd (by rfl) (ex_load1 (B := w.heap.size + 1) (p := 15) (cs := d.cs) (v := .int .i64 d.w) 37 Tryz.isAgg37 rfl rfl ((unhide LL).get 1 rfl) rfl) ?_); simp only [Act.put, nzA, nzB, nzC]) | ((refine rd (by rfl) (ex_load1 (B := w.heap.size + 1) (p := 16) (cs := d.cs) (v := .int .i64 d.e) 37 Tryz.isAgg37 rfl rfl ((unhide LL).get 1 rfl) rfl) ?_); simp only [Act.put, nzA, nzB, nzC]) | ((refine rd (by rfl) (ex_load1 (B := w.heap.size + 1) (p := 17) (cs := d.cs) (v := .int .i64 d.c) 37 Tryz.isAgg37 rfl rfl ((unhide LL).get 1 rfl) rfl) ?_); simp only [Act.put, nzA, nzB, nzC]))
  go_ret
  exact ⟨by simp, (unhide LL).fr.below⟩
end
section
open Go Go.Proofs Go.Maps Go.RowKit
/-- Rows of properties. -/
def RowsP (w : World) (b : Nat) (l : List (KK × DD)) : Prop := ∀ j, (h : j < l.length) → w.rangeAt b (j * 20) (l[j].1.cs ++ l[j].2.cs)
theorem RowsP.keep {w w' : World} {b : Nat} {l : List (KK × DD)} (h : RowsP w b l) (he : w'.heap[b]? = w.heap[b]?) : RowsP w' b l := fun j hj i v hv => (World.cell?_of_block he).trans (h j hj i v hv)
theorem ex_loadR {o : Oper} {a : Act} {W : World} {x : Operand} {B p : Nat} {vs : List Value} (t : TypeId) (n : Nat) (hu : ∃ d, Tryz.prog.underlying t = some d ∧ d.isRow = true) (hi : (Tryz.prog.info? t).map (·.size) = some n) (ho : o.op = .load t x) (hx : a.eval x = .pointer (some ⟨B, p, none⟩)) (h0 : W.rangeAt B p vs) (hn : vs.length = n) : (execOp a.eval o).run Tryz.prog W = .ok (.value (.agg vs.toArray)) W := by
  obtain ⟨d, hu, hd⟩ := hu
  unfold execOp
  simp only [ho, hx, Instr.loadAt, Instr.sureAddr, Sem.run_bind, Sem.run_pure, Result.andThen_ok, run_loadVar_mid W B p t vs d h0 hu hd (by rw [hi, hn])]
theorem index61 (g n cap j : Nat) (hj : j < n) (w : World) : (Instr.indexAt 61 (.slice (some ⟨g, 0, none⟩) n cap) (.int .i64 j)).run Tryz.prog w = .ok (.pointer (some ⟨g, j * 20, none⟩)) w := by
  rw [run_indexAt_slice (h := by kernel_rfl), if_pos ⟨by omega, by omega⟩]
  have e : (sizeOf (Tryz.prog.elem 61)).run Tryz.prog w = .ok 20 w := by kernel_rfl
  rw [e]
  have e2 : (Addr.add ⟨g, 0, none⟩ ((j : Int).toNat * 20)) = ⟨g, j * 20, none⟩ := by
    rw [Addr.add_mid]
    simp
  show Result.ok (Value.pointer (some (Addr.add ⟨g, 0, none⟩ ((j : Int).toNat * 20)))) w = _
  rw [e2]
theorem ex_index61 {o : Oper} {a : Act} {w : World} {x ix : Operand} {g n cap : Nat} (j : Nat) (ho : o.op = .indexAddr 61 x ix) (hx : a.eval x = .slice (some ⟨g, 0, none⟩) n cap) (hix : a.eval ix = .int .i64 j) (hj : j < n) : (execOp a.eval o).run Tryz.prog w = .ok (.value (.pointer (some ⟨g, j * 20, none⟩))) w := by
  unfold execOp
  simp only [ho, hx, hix]
  have := index61 g n cap j hj w
  simp [this]
theorem range_left {w : World} {b p : Nat} {a c : List Value} (h : w.rangeAt b p (a ++ c)) : w.rangeAt b p a := fun j v hv => h j v (by rw [List.getElem?_append_left (List.getElem?_eq_some_iff.1 hv).1]; exact hv)
theorem range_right {w : World} {b p : Nat} {a c : List Value} (h : w.rangeAt b p (a ++ c)) : w.rangeAt b (p + a.length) c := fun j v hv => by
  have := h (a.length + j) v (by rw [List.getElem?_append_right (by omega)]; simpa using hv)
  rwa [← Nat.add_assoc] at this
set_option maxRecDepth 100000 in
theorem same_propsR (b1 cap1 b2 cap2 : Nat) (l : List (KK × DD)) (w : World) (h1 : RowsP w b1 l) (h2 : RowsP w b2 l) (hb1 : b1 < w.heap.size) (hb2 : b2 < w.heap.size) (hl : l.length ≤ 3000000) : Calls Tryz.prog 31 #[.slice (some ⟨b1, 0, none⟩) l.length cap1, .slice (some ⟨b2, 0, none⟩) l.length cap2] w fun e w' => e = .returned (.bool true) ∧ Below w.heap.size w w' := by
  have H1 := hide h1
  have H2 := hide h2
  have HLB := hide (And.intro hb1 hb2)
  clear h1 h2 hb1 hb2
  go_enter Tryz.func31, Tryz.ntmps31
  go_wp2_with fail
  go_loopg [5] l.length (fun gm s5 wr => ∃ j : Nat, s5 = .int .i64 j ∧ j ≤ l.length ∧ l.length - j ≤ gm ∧ Hid (Below w.heap.size w wr))
  case atStart => exact ⟨0, rfl, by omega, by omega, hide (Below.refl _ _)⟩
  case round =>
    obtain ⟨j, rfl, hj, hg, HB⟩ := hrel
    by_cases hjl : j < l.length
    · have hjz : (j : Int) < l.length := by omega
      obtain ⟨k, hk⟩ : ∃ k, k = l[j].1 := ⟨_, rfl⟩
      obtain ⟨d, hd⟩ : ∃ d, d = l[j].2 := ⟨_, rfl⟩
      have hBs := (unhide HB).size
      have HS : Hid (wr.drew.rangeAt b1 (j * 20) (k.cs ++ d.cs) ∧ wr.drew.rangeAt b2 (j * 20) (k.cs ++ d.cs)) := hide ⟨by rw [hk, hd]; exact (unhide H1).keep (w' := wr.drew) ((unhide HB).block b1 (unhide HLB).1) j hjl, by rw [hk, hd]; exact (unhide H2).keep (w' := wr.drew) ((unhide HB).block b2 (unhide HLB).2) j hjl⟩
      have HLT : Hid (b1 < wr.drew.heap.size ∧ b2 < wr.drew.heap.size) := hide ⟨Nat.lt_of_lt_of_le (unhide HLB).1 hBs, Nat.lt_of_lt_of_le (unhide HLB).2 hBs⟩
      clear hk hd hBs
      go_wp2
      refine wp_region_held_drew (P := Tryz.prog) (S := fun X => X.rangeAt b1 (j * 20) (k.cs ++ d.cs) ∧ X.rangeAt b2 (j * 20) (k.cs ++ d.cs)) (by kernel_rfl) (unhide HS) (fun hS0 => ?_)
      refine gsem 0 (some 17) (.slice (some ⟨b1, 0, none⟩) l.length cap1) rfl (by kernel_rfl) (by kernel_rfl) (by kernel_rfl) (fun _ _ _ h => h) (by kernel_rfl) (by kernel_rfl) (fun _ _ => by kernel_rfl) hS0 ?_
      simp only [Act.put, nzA, nzB, nzC]
      refine gsem 1 (some 18) (.int .i64 (j : Nat)) rfl (by kernel_rfl) (by kernel_rfl) (by kernel_rfl) (fun _ _ _ h => h) (by kernel_rfl) (by kernel_rfl) (fun _ _ => by kernel_rfl) hS0 ?_
      simp only [Act.put, nzA, nzB, nzC]
      refine gsem 2 (some 19) (.pointer (some ⟨b1, j * 20, none⟩)) rfl (by kernel_rfl) (by kernel_rfl) (by kernel_rfl) (fun _ _ _ h => h) (by kernel_rfl) (by kernel_rfl) (fun X hX => ex_index61 (x := .tmp 17) (ix := .tmp 18) j rfl rfl rfl hjl) hS0 ?_
      simp only [Act.put, nzA, nzB, nzC]
      refine gsem 3 (some 20) (.pointer (some ⟨b1, j * 20, none⟩)) rfl (by kernel_rfl) (by kernel_rfl) (by kernel_rfl) (fun _ _ _ h => h) (by kernel_rfl) (by kernel_rfl) (fun _ _ => by kernel_rfl) hS0 ?_
      simp only [Act.put, nzA, nzB, nzC]
      refine gsem 4 (some 21) (k.agg) rfl (by kernel_rfl) (by kernel_rfl) (by kernel_rfl) (fun _ _ _ h => h) (by kernel_rfl) (by kernel_rfl) (fun X hX => ex_loadR (vs := k.cs) 33 2 row33x siz33 rfl rfl (range_left hX.1) rfl) hS0 ?_
      simp only [Act.put, nzA, nzB, nzC]
      refine gsem 5 (some 22) (.slice (some ⟨b2, 0, none⟩) l.length cap2) rfl (by kernel_rfl) (by kernel_rfl) (by kernel_rfl) (fun _ _ _ h => h) (by kernel_rfl) (by kernel_rfl) (fun _ _ => by kernel_rfl) hS0 ?_
      simp only [Act.put, nzA, nzB, nzC]
      refine gsem 6 (some 23) (.int .i64 (j : Nat)) rfl (by kernel_rfl) (by kernel_rfl) (by kernel_rfl) (fun _ _ _ h => h) (by kernel_rfl) (by kernel_rfl) (fun _ _ => by kernel_rfl) hS0 ?_
      simp only [Act.put, nzA, nzB, nzC]
      refine gsem 7 (some 24) (.pointer (some ⟨b2, j * 20, none⟩)) rfl (by kernel_rfl) (by kernel_rfl) (by kernel_rfl) (fun _ _ _ h => h) (by kernel_rfl) (by kernel_rfl) (fun X hX => ex_index61 (x := .tmp 22) (ix := .tmp 23) j rfl rfl rfl hjl) hS0 ?_
      simp only [Act.put, nzA, nzB, nzC]
      refine gsem 8 (some 25) (.pointer (some ⟨b2, j * 20, none⟩)) rfl (by kernel_rfl) (by kernel_rfl) (by kernel_rfl) (fun _ _ _ h => h) (by kernel_rfl) (by kernel_rfl) (fun _ _ => by kernel_rfl) hS0 ?_
      simp only [Act.put, nzA, nzB, nzC]
      refine gsem 9 (some 26) (k.agg) rfl (by kernel_rfl) (by kernel_rfl) (by kernel_rfl) (fun _ _ _ h => h) (by kernel_rfl) (by kernel_rfl) (fun X hX => ex_loadR (vs := k.cs) 33 2 row33x siz33 rfl rfl (range_left hX.2) rfl) hS0 ?_
      simp only [Act.put, nzA, nzB, nzC]
      refine gbin 10 (some 27) (b := .neq) (t := 33) (t2 := 33) (x := .tmp 21) (y := .tmp 26) (vx := k.agg) (vy := k.agg) (.bool false) rfl (by kernel_rfl) (by kernel_rfl) (by kernel_rfl) (fun _ _ _ h => h) (by kernel_rfl) (by kernel_rfl) (by kernel_rfl) (by kernel_rfl) (by kernel_rfl) (fun w => neq23 k w) (fun _ => by kernel_rfl) hS0 ?_
      simp only [Act.put, nzA, nzB, nzC]
      refine gsem 11 (some 28) (.bool false) rfl (by kernel_rfl) (by kernel_rfl) (by kernel_rfl) (fun _ _ _ h => h) (by kernel_rfl) (by kernel_rfl) (fun _ _ => by kernel_rfl) hS0 ?_
      simp only [Act.put, nzA, nzB, nzC]
      refine gsem 12 (some 29) (.slice (some ⟨b1, 0, none⟩) l.length cap1) rfl (by kernel_rfl) (by kernel_rfl) (by kernel_rfl) (fun _ _ _ h => h) (by kernel_rfl) (by kernel_rfl) (fun _ _ => by kernel_rfl) hS0 ?_
      simp only [Act.put, nzA, nzB, nzC]
      refine gsem 13 (some 30) (.int .i64 (j : Nat)) rfl (by kernel_rfl) (by kernel_rfl) (by kernel_rfl) (fun _ _ _ h => h) (by kernel_rfl) (by kernel_rfl) (fun _ _ => by kernel_rfl) hS0 ?_
      simp only [Act.put, nzA, nzB, nzC]
      refine gsem 14 (some 31) (.pointer (some ⟨b1, j * 20, none⟩)) rfl (by kernel_rfl) (by kernel_rfl) (by kernel_rfl) (fun _ _ _ h => h) (by kernel_rfl) (by kernel_rfl) (fun X hX => ex_index61 (x := .tmp 29) (ix := .tmp 30) j rfl rfl rfl hjl) hS0 ?_
      simp only [Act.put, nzA, nzB, nzC]
      refine gsem 15 (some 32) (.pointer (some ⟨b1, j * 20 + 2, none⟩)) rfl (by kernel_rfl) (by kernel_rfl) (by kernel_rfl) (fun _ _ _ h => h) (by kernel_rfl) (by kernel_rfl) (fun _ _ => by kernel_rfl) hS0 ?_
      simp only [Act.put, nzA, nzB, nzC]
      refine gsem 16 (some 33) (d.agg) rfl (by kernel_rfl) (by kernel_rfl) (by kernel_rfl) (fun _ _ _ h => h) (by kernel_rfl) (by kernel_rfl) (fun X hX => ex_loadR (vs := d.cs) 39 18 row39 siz39 rfl rfl (range_right hX.1) rfl) hS0 ?_
      simp only [Act.put, nzA, nzB, nzC]
      refine gsem 17 (some 34) (.slice (some ⟨b2, 0, none⟩) l.length cap2) rfl (by kernel_rfl) (by kernel_rfl) (by kernel_rfl) (fun _ _ _ h => h) (by kernel_rfl) (by kernel_rfl) (fun _ _ => by kernel_rfl) hS0 ?_
      simp only [Act.put, nzA, nzB, nzC]
      refine gsem 18 (some 35) (.int .i64 (j : Nat)) rfl (by kernel_rfl) (by kernel_rfl) (by kernel_rfl) (fun _ _ _ h => h) (by kernel_rfl) (by kernel_rfl) (fun _ _ => by kernel_rfl) hS0 ?_
      simp only [Act.put, nzA, nzB, nzC]
      refine gsem 19 (some 36) (.pointer (some ⟨b2, j * 20, none⟩)) rfl (by kernel_rfl) (by kernel_rfl) (by kernel_rfl) (fun _ _ _ h => h) (by kernel_rfl) (by kernel_rfl) (fun X hX => ex_index61 (x := .tmp 34) (ix := .tmp 35) j rfl rfl rfl hjl) hS0 ?_
      simp only [Act.put, nzA, nzB, nzC]
      refine gsem 20 (some 37) (.pointer (some ⟨b2, j * 20 + 2, none⟩)) rfl (by kernel_rfl) (by kernel_rfl) (by kernel_rfl) (fun _ _ _ h => h) (by kernel_rfl) (by kernel_rfl) (fun _ _ => by kernel_rfl) hS0 ?_
      simp only [Act.put, nzA, nzB, nzC]
      refine gsem 21 (some 38) (d.agg) rfl (by kernel_rfl) (by kernel_rfl) (by kernel_rfl) (fun _ _ _ h => h) (by kernel_rfl) (by kernel_rfl) (fun X hX => ex_loadR (vs := d.cs) 39 18 row39 siz39 rfl rfl (range_right hX.2) rfl) hS0 ?_
      simp only [Act.put, nzA, nzB, nzC]
      have hwd := (unhide HLT)
      refine wpAnyH_ready (rs := [22]) (by kernel_rfl) (by simp) (gcall 22 (some 39) rfl (by kernel_rfl) (by kernel_rfl) (by kernel_rfl) (sameDesc21 d _) (fun X hX => ⟨fun i v hv => (World.cell?_of_block (hX.block b1 hwd.1)).trans (hS0.1 i v hv), fun i v hv => (World.cell?_of_block (hX.block b2 hwd.2)).trans (hS0.2 i v hv)⟩) ?_ AllReadyH.nil)
      intro X hX
      replace hS0 : X.rangeAt b1 (j * 20) (k.cs ++ d.cs) ∧ X.rangeAt b2 (j * 20) (k.cs ++ d.cs) := ⟨fun i v hv => (World.cell?_of_block (hX.block b1 hwd.1)).trans (hS0.1 i v hv), fun i v hv => (World.cell?_of_block (hX.block b2 hwd.2)).trans (hS0.2 i v hv)⟩
      have HX := hide hX
      clear hX
      simp only [Act.put, nzA, nzB, nzC]
      refine gsem 23 (some 40) (.bool false) rfl (by kernel_rfl) (by kernel_rfl) (by kernel_rfl) (fun _ _ _ h => h) (by kernel_rfl) (by kernel_rfl) (fun _ _ => by kernel_rfl) hS0 ?_
      simp only [Act.put, nzA, nzB, nzC]
      refine gsem 24 (some 41) (.bool false) rfl (by kernel_rfl) (by kernel_rfl) (by kernel_rfl) (fun _ _ _ h => h) (by kernel_rfl) (by kernel_rfl) (fun _ _ => by kernel_rfl) hS0 ?_
      simp only [Act.put, nzA, nzB, nzC]
      refine wpAnyH_done (by kernel_rfl) ?_ _
      try simp only [Act.put, nzA, nzB, nzC]
      clear hS0
      go_wp2
      go_roundg (l.length - (j + 1))
      case measure => omega
      case rel => exact ⟨j + 1, by go_num, by omega, Nat.le_refl _, hide ((unhide HB).trans (((Below.refl _ _).drew.trans ((unhide HX).mono (Nat.le_refl _))).mono (unhide HB).size))⟩
    · have hjz : ¬ (j : Int) < l.length := by omega
      go_wp2
      go_ret
      exact ⟨rfl, unhide HB⟩
theorem ex_index64 {o : Oper} {a : Act} {w : World} {x ix : Operand} {g off n cap : Nat} (j : Nat) (ho : o.op = .indexAddr 64 x ix) (hx : a.eval x = .slice (some ⟨g, off, none⟩) n cap) (hix : a.eval ix = .int .i64 j) (hj : j < n) : (execOp a.eval o).run Tryz.prog w = .ok (.value (.pointer (some ⟨g, off + j * 2, none⟩))) w := by
  unfold execOp
  simp only [ho, hx, hix]
  have := index24 g off n cap j hj w
  simp [this]
theorem nil_keys32 (A1 A2 : Option Addr) (c1 c2 : Nat) (w : World) : Calls Tryz.prog 32 #[.slice A1 0 c1, .slice A2 0 c2] w fun e w' => e = .returned (.bool true) ∧ Below w.heap.size w w' := by
  go_enter Tryz.func32, Tryz.ntmps32
  go_wp2_with fail
  go_loopg [5] 0 (fun gm s5 wr => s5 = .int .i64 0 ∧ wr = w)
  case atStart => exact ⟨rfl, rfl⟩
  case round =>
    obtain ⟨rfl, rfl⟩ := hrel
    go_wp2
    go_ret
    exact ⟨rfl, Below.refl _ _⟩
theorem nil_props31 (A1 A2 : Option Addr) (c1 c2 : Nat) (w : World) : Calls Tryz.prog 31 #[.slice A1 0 c1, .slice A2 0 c2] w fun e w' => e = .returned (.bool true) ∧ Below w.heap.size w w' := by
  go_enter Tryz.func31, Tryz.ntmps31
  go_wp2_with fail
  go_loopg [5] 0 (fun gm s5 wr => s5 = .int .i64 0 ∧ wr = w)
  case atStart => exact ⟨rfl, rfl⟩
  case round =>
    obtain ⟨rfl, rfl⟩ := hrel
    go_wp2
    go_ret
    exact ⟨rfl, Below.refl _ _⟩
set_option maxRecDepth 100000 in
theorem same_keysR (b1 off1 cap1 b2 off2 cap2 : Nat) (l : List KK) (w : World) (h1 : RowsK w b1 off1 l) (h2 : RowsK w b2 off2 l) (hb1 : b1 < w.heap.size) (hb2 : b2 < w.heap.size) (hl : l.length ≤ 3000000) : Calls Tryz.prog 32 #[.slice (some ⟨b1, off1, none⟩) l.length cap1, .slice (some ⟨b2, off2, none⟩) l.length cap2] w fun e w' => e = .returned (.bool true) ∧ Below w.heap.size w w' := by
  have H1 := hide h1
  have H2 := hide h2
  have HLB := hide (And.intro hb1 hb2)
  clear h1 h2 hb1 hb2
  go_enter Tryz.func32, Tryz.ntmps32
  go_wp2_with fail
  go_loopg [5] l.length (fun gm s5 wr => ∃ j : Nat, s5 = .int .i64 j ∧ j ≤ l.length ∧ l.length - j ≤ gm ∧ Hid (Below w.heap.size w wr))
  case atStart => exact ⟨0, rfl, by omega, by omega, hide (Below.refl _ _)⟩
  case round =>
    obtain ⟨j, rfl, hj, hg, HB⟩ := hrel
    by_cases hjl : j < l.length
    · have hjz : (j : Int) < l.length := by omega
      obtain ⟨k, hk⟩ : ∃ k, k = l[j] := ⟨_, rfl⟩
      have HS : Hid (wr.drew.rangeAt b1 (off1 + j * 2) k.cs ∧ wr.drew.rangeAt b2 (off2 + j * 2) k.cs) := hide ⟨by rw [hk]; exact (unhide H1).keep (w' := wr.drew) ((unhide HB).block b1 (unhide HLB).1) j hjl, by rw [hk]; exact (unhide H2).keep (w' := wr.drew) ((unhide HB).block b2 (unhide HLB).2) j hjl⟩
      clear hk
      go_wp2
      refine wp_region_held_drew (P := Tryz.prog) (S := fun X => X.rangeAt b1 (off1 + j * 2) k.cs ∧ X.rangeAt b2 (off2 + j * 2) k.cs) (by kernel_rfl) (unhide HS) (fun hS0 => ?_)
      refine gsem 0 (some 17) (.slice (some ⟨b1, off1, none⟩) l.length cap1) rfl (by kernel_rfl) (by kernel_rfl) (by kernel_rfl) (fun _ _ _ h => h) (by kernel_rfl) (by kernel_rfl) (fun _ _ => by kernel_rfl) hS0 ?_
      simp only [Act.put, nzA, nzB, nzC]
      refine gsem 1 (some 18) (.int .i64 (j : Nat)) rfl (by kernel_rfl) (by kernel_rfl) (by kernel_rfl) (fun _ _ _ h => h) (by kernel_rfl) (by kernel_rfl) (fun _ _ => by kernel_rfl) hS0 ?_
      simp only [Act.put, nzA, nzB, nzC]
      refine gsem 2 (some 19) (.pointer (some ⟨b1, off1 + j * 2, none⟩)) rfl (by kernel_rfl) (by kernel_rfl) (by kernel_rfl) (fun _ _ _ h => h) (by kernel_rfl) (by kernel_rfl) (fun X hX => ex_index64 (x := .tmp 17) (ix := .tmp 18) j rfl rfl rfl hjl) hS0 ?_
      simp only [Act.put, nzA, nzB, nzC]
      refine gsem 3 (some 20) (k.agg) rfl (by kernel_rfl) (by kernel_rfl) (by kernel_rfl) (fun _ _ _ h => h) (by kernel_rfl) (by kernel_rfl) (fun X hX => ex_loadR (vs := k.cs) 33 2 row33x siz33 rfl rfl hX.1 rfl) hS0 ?_
      simp only [Act.put, nzA, nzB, nzC]
      refine gsem 4 (some 21) (.slice (some ⟨b2, off2, none⟩) l.length cap2) rfl (by kernel_rfl) (by kernel_rfl) (by kernel_rfl) (fun _ _ _ h => h) (by kernel_rfl) (by kernel_rfl) (fun _ _ => by kernel_rfl) hS0 ?_
      simp only [Act.put, nzA, nzB, nzC]
      refine gsem 5 (some 22) (.int .i64 (j : Nat)) rfl (by kernel_rfl) (by kernel_rfl) (by kernel_rfl) (fun _ _ _ h => h) (by kernel_rfl) (by kernel_rfl) (fun _ _ => by kernel_rfl) hS0 ?_
      simp only [Act.put, nzA, nzB, nzC]
      refine gsem 6 (some 23) (.pointer (some ⟨b2, off2 + j * 2, none⟩)) rfl (by kernel_rfl) (by kernel_rfl) (by kernel_rfl) (fun _ _ _ h => h) (by kernel_rfl) (by kernel_rfl) (fun X hX => ex_index64 (x := .tmp 21) (ix := .tmp 22) j rfl rfl rfl hjl) hS0 ?_
      simp only [Act.put, nzA, nzB, nzC]
      refine gsem 7 (some 24) (k.agg) rfl (by kernel_rfl) (by kernel_rfl) (by kernel_rfl) (fun _ _ _ h => h) (by kernel_rfl) (by kernel_rfl) (fun X hX => ex_loadR (vs := k.cs) 33 2 row33x siz33 rfl rfl hX.2 rfl) hS0 ?_
      simp only [Act.put, nzA, nzB, nzC]
      refine gbin 8 (some 25) (b := .neq) (t := 33) (t2 := 33) (x := .tmp 20) (y := .tmp 24) (vx := k.agg) (vy := k.agg) (.bool false) rfl (by kernel_rfl) (by kernel_rfl) (by kernel_rfl) (fun _ _ _ h => h) (by kernel_rfl) (by kernel_rfl) (by kernel_rfl) (by kernel_rfl) (by kernel_rfl) (fun w => neq23 k w) (fun _ => by kernel_rfl) hS0 ?_
      simp only [Act.put, nzA, nzB, nzC]
      refine wpAnyH_done (by kernel_rfl) ?_ _
      try simp only [Act.put, nzA, nzB, nzC]
      clear hS0
      go_wp2
      go_roundg (l.length - (j + 1))
      case measure => omega
      case rel => exact ⟨j + 1, by go_num, by omega, Nat.le_refl _, hide ((unhide HB).drew)⟩
    · have hjz : ¬ (j : Int) < l.length := by omega
      go_wp2
      go_ret
      exact ⟨rfl, unhide HB⟩
theorem sameKeys32 (v u : Value) (l : List KK) (w : World) (h1 : ReadsK w v l) (h2 : ReadsK w u l) (hl : l.length ≤ 3000000) : Calls Tryz.prog 32 #[v, u] w fun e w' => e = .returned (.bool true) ∧ Below w.heap.size w w' := by
  rcases h1 with ⟨A, c, rfl, rfl⟩ | ⟨b, off, cap, rfl, hb, hr⟩
  · rcases h2 with ⟨A2, c2, rfl, -⟩ | ⟨b2, off2, cap2, rfl, hb2, hr2⟩
    · exact nil_keys32 A A2 c c2 w
    · exact nil_keys32 A _ c cap2 w
  · rcases h2 with ⟨A2, c2, rfl, rfl⟩ | ⟨b2, off2, cap2, rfl, hb2, hr2⟩
    · exact nil_keys32 _ A2 cap c2 w
    · exact same_keysR b off cap b2 off2 cap2 l w hr hr2 hb hb2 hl
end
end Go.Proofs.YtpbdidnphkkenaaGreatDoor
namespace Go.Proofs.YtpbdidnphkkenaaGreatDoor
set_option maxHeartbeats 2000000
section
open Go Go.Proofs Go.Maps Go.RowKit
theorem isNaN82 (x : Nat) (w : World) : Calls Tryz.prog 82 #[.int .u64 x] w fun e w' => e = .returned (.bool false) ∧ w' = w := by
  go_enter Tryz.func82, Tryz.ntmps82
  go_wp2
  go_ret
  simp
theorem cmp71 (x y : Nat) (w : World) : Calls Tryz.prog 71 #[.int .u64 x, .int .u64 y] w fun e w' => e = .returned (.int .i64 (if x < y then -1 else if y < x then 1 else 0)) ∧ w' = w := by
  have H1 := hide (fun z : Nat => isNaN82 z w)
  by_cases h1 : x < y
  · rw [if_pos h1]
    have h1' : (x : Int) < (y : Int) := by omega
    go_enter Tryz.func71, Tryz.ntmps71
    go_wp2_with fail
    refine ((unhide H1) x).mono ?_
    rintro _ _ ⟨rfl, rfl⟩
    go_wp2_with fail
    refine ((unhide H1) y).mono ?_
    rintro _ _ ⟨rfl, rfl⟩
    go_wp2
    go_ret
    exact ⟨rfl, rfl⟩
  · rw [if_neg h1]
    have h1' : ¬ (x : Int) < (y : Int) := by omega
    by_cases h2 : y < x
    · rw [if_pos h2]
      have h2' : (y : Int) < (x : Int) := by omega
      go_enter Tryz.func71, Tryz.ntmps71
      go_wp2_with fail
      refine ((unhide H1) x).mono ?_
      rintro _ _ ⟨rfl, rfl⟩
      go_wp2_with fail
      refine ((unhide H1) y).mono ?_
      rintro _ _ ⟨rfl, rfl⟩
      go_wp2
      go_ret
      exact ⟨rfl, rfl⟩
    · rw [if_neg h2]
      have h2' : ¬ (y : Int) < (x : Int) := by omega
      go_enter Tryz.func71, Tryz.ntmps71
      go_wp2_with fail
      refine ((unhide H1) x).mono ?_
      rintro _ _ ⟨rfl, rfl⟩
      go_wp2_with fail
      refine ((unhide H1) y).mono ?_
      rintro _ _ ⟨rfl, rfl⟩
      go_wp2
      go_ret
      exact ⟨rfl, rfl⟩
/-- What one number is against another. -/
def cu (x y : Nat) : Int := if x < y then -1 else if y < x then 1 else 0
theorem byNumber58 (r : RR) (y : Nat) (w : World) (h : Holds w r.b r.cs) : Calls Tryz.prog 58 #[.pointer (some ⟨r.b, 0, none⟩), .int .u64 y] w fun e w' => e = .returned (.int .i64 (cu r.n y)) ∧ w' = w := by
  have H1 : Hid (Calls Tryz.prog 71 #[.int .u64 r.n, .int .u64 y] w fun e w' => e = .returned (.int .i64 (cu r.n y)) ∧ w' = w) := hide (cmp71 r.n y w)
  generalize cu r.n y = c at *
  have HR := hide h
  clear h
  go_enter Tryz.func58, Tryz.ntmps58
  go_wp2_with (first | go_skip | ((refine rd (by rfl) (ex_load1 71 Tryz.isAgg71 rfl rfl (unhide HR) rfl) ?_); simp only [Act.put, nzA, nzB, nzC]))
  refine (unhide H1).mono ?_
  rintro _ _ ⟨rfl, rfl⟩
  go_wp2
  go_ret
  exact ⟨rfl, rfl⟩
