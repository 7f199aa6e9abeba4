import Derived.Test.YtmlofbgnoaobfaaDoorLc
import Derived.Deep.LoopGhost
import Derived.Laws.StructEq
namespace Go.Proofs.YtmlofbgnoaobfaaDoor
open Go Go.Proofs Go.RowKit
set_option linter.unusedSimpArgs false
set_option linter.unusedVariables false
theorem num7 (n : Int) (w : World) : Calls Tryd.prog 7 #[.int .i64 n] w fun e w' => e = .returned (.int .i64 n) ∧ w' = w := by
  go_enter Tryd.func7, Tryd.ntmps7
  go_wp2
  go_ret
  exact ⟨rfl, rfl⟩
theorem all_take {l : List KK} {j : Nat} (h : j < l.length) : (l.take (j + 1)).all goodK = ((l.take j).all goodK && goodK l[j]) := by
  rw [List.take_succ_eq_append_getElem h, List.all_append]
  simp
theorem all_not {l : List KK} {j : Nat} (h : j < l.length) (hg : goodK l[j] = false) : l.all goodK = false := by
  rw [List.all_eq_false]
  exact ⟨l[j], List.getElem_mem h, by rw [hg]; decide⟩
set_option maxHeartbeats 20000000 in
set_option maxRecDepth 100000 in
theorem good_rows (b off cap : Nat) (l : List KK) (w : World) (hb : b < w.heap.size) (hr : RowsK w b off l) (hlen : l.length ≤ 3000) : Calls Tryd.prog 9 #[.slice (some ⟨b, off, none⟩) l.length cap] w fun e w' => e = .returned (.bool (l.all goodK)) ∧ Below w.heap.size w w' := by
  have HRD := hide hr
  clear hr
  go_enter Tryd.func9, Tryd.ntmps9
  go_wp2_with fail
  go_loopg [3] l.length (fun g s3 wr => ∃ j : Nat, s3 = .int .i64 j ∧ j ≤ l.length ∧ l.length - j ≤ g ∧ (l.take j).all goodK = true ∧ Hid (Below w.heap.size w wr))
  case atStart => exact ⟨0, rfl, by omega, by omega, rfl, hide (Below.refl _ _)⟩
  case round =>
    obtain ⟨j, rfl, hj, hg, hall, HB⟩ := hrel
    by_cases hlt : j < l.length
    · have hjz : (j : Int) < l.length := by omega
      obtain ⟨d, hd⟩ : ∃ d, d = l[j] := ⟨_, rfl⟩
      have HR : Hid (wr.rangeAt b (off + j * 2) d.cs) := hide (by rw [hd]; exact (unhide HRD).keep ((unhide HB).block b hb) j hlt)
      have HG := hide (refGoodK d)
      have ht := all_take hlt
      have HN := hide (fun hg => all_not (l := l) hlt hg)
      rw [← hd] at ht HN
      generalize goodK d = gd at *
      clear hd
      cases gd
      · go_wp2_with (first | go_skip | ((with_reducible apply kindex (j := j)); (case ho => rfl); (case hw => rfl); (case hx => rfl); (case hix => rfl); (case hj => exact hlt); simp only [Act.put, List.setIfInBounds_toArray, List.set_cons_succ, List.set_cons_zero]) | ((with_reducible apply kread (d := d)); (case ho => rfl); (case hw => rfl); (case hx => rfl); (case hc => exact unhide HR); simp only [Act.put, List.setIfInBounds_toArray, List.set_cons_succ, List.set_cons_zero]))
        refine (unhide HG _).mono ?_
        rintro _ w1 ⟨rfl, hb1⟩
        have HB1 := hide ((unhide HB).trans (hb1.mono (unhide HB).size))
        go_wp2
        go_ret
        exact ⟨by rw [unhide HN (by trivial)]; rfl, unhide HB1⟩
      · go_wp2_with (first | go_skip | ((with_reducible apply kindex (j := j)); (case ho => rfl); (case hw => rfl); (case hx => rfl); (case hix => rfl); (case hj => exact hlt); simp only [Act.put, List.setIfInBounds_toArray, List.set_cons_succ, List.set_cons_zero]) | ((with_reducible apply kread (d := d)); (case ho => rfl); (case hw => rfl); (case hx => rfl); (case hc => exact unhide HR); simp only [Act.put, List.setIfInBounds_toArray, List.set_cons_succ, List.set_cons_zero]))
        refine (unhide HG _).mono ?_
        rintro _ w1 ⟨rfl, hb1⟩
        have HB1 := hide ((unhide HB).trans (hb1.mono (unhide HB).size))
        go_wp2
        go_roundg (l.length - (j + 1))
        case measure => omega
        case rel => exact ⟨j + 1, by go_num, by omega, Nat.le_refl _, by rw [ht, hall]; rfl, HB1⟩
    · have hjz : ¬ (j : Int) < l.length := by omega
      have HE := hide (show l.all goodK = true by rw [← hall, List.take_of_length_le (by omega)])
      go_wp2
      go_ret
      exact ⟨by rw [unhide HE]; rfl, unhide HB⟩
set_option maxHeartbeats 20000000 in
set_option maxRecDepth 100000 in
theorem good_nil (A : Option Addr) (cap : Nat) (w : World) : Calls Tryd.prog 9 #[.slice A 0 cap] w fun e w' => e = .returned (.bool true) ∧ Below w.heap.size w w' := by
  go_enter Tryd.func9, Tryd.ntmps9
  go_wp2_with fail
  go_loopg [3] 0 (fun g s3 wr => s3 = .int .i64 0 ∧ wr = w)
  case atStart => exact ⟨rfl, rfl⟩
  case round =>
    obtain ⟨rfl, rfl⟩ := hrel
    go_wp2
    go_ret
    exact ⟨rfl, Below.refl _ _⟩
theorem goods9 (v : Value) (l : List KK) (w : World) (hr : ReadsK w v l) (hlen : l.length ≤ 3000) : Calls Tryd.prog 9 #[v] w fun e w' => e = .returned (.bool (l.all goodK)) ∧ Below w.heap.size w w' := by
  rcases hr with ⟨A, c, rfl, rfl⟩ | ⟨b, off, cap, rfl, hb, hr⟩
  · exact good_nil A c w
  · exact good_rows b off cap l w hb hr hlen
theorem neq23 (k : KK) (w : World) : (binOp .neq 23 k.agg k.agg).run Tryd.prog w = .ok (.bool false) w := by
  unfold KK.agg
  have ht : Tryd.prog.underlying 23 = some (.struct (Tryd.prog.fieldsOf 23)) := by kernel_rfl
  rw [run_neq_struct, show (10000 : Nat) = 9998 + 1 + 1 from rfl, run_equalIn_struct _ _ _ _ _ ht (by kernel_rfl)]
  have hf : Tryd.prog.fieldsOf 23 = (match Tryd.prog.underlying 23 with | some (.struct f) => f | _ => #[]) := by kernel_rfl
  rw [hf, Tryd.underlying23]
  simp [Op.eqFields, go_sem, part]
set_option maxHeartbeats 20000000 in
set_option maxRecDepth 100000 in
theorem same_rows (b off cap b2 off2 cap2 : Nat) (l : List KK) (w : World) (hb : b < w.heap.size) (hb2 : b2 < w.heap.size) (hr : RowsK w b off l) (hr2 : RowsK w b2 off2 l) (hlen : l.length ≤ 10000) : Calls Tryd.prog 10 #[.slice (some ⟨b, off, none⟩) l.length cap, .slice (some ⟨b2, off2, none⟩) l.length cap2] w fun e w' => e = .returned (.bool true) ∧ Below w.heap.size w w' := by
  have HRA := hide hr
  have HRB := hide hr2
  clear hr hr2
  go_enter Tryd.func10, Tryd.ntmps10
  go_wp2_with fail
  go_loopg [5] l.length (fun g s5 wr => ∃ j : Nat, s5 = .int .i64 j ∧ j ≤ l.length ∧ l.length - j ≤ g ∧ Hid (Below w.heap.size w wr))
  case atStart => exact ⟨0, rfl, by omega, by omega, hide (Below.refl _ _)⟩
  case round =>
    obtain ⟨j, rfl, hj, hg, HB⟩ := hrel
    by_cases hlt : j < l.length
    · have hjz : (j : Int) < l.length := by omega
      obtain ⟨d, hd⟩ : ∃ d, d = l[j] := ⟨_, rfl⟩
      go_wp2_with fail
      refine wp_region_held_drew (P := Tryd.prog) (S := (fun X => RowsK X b off l ∧ RowsK X b2 off2 l ∧ b < X.heap.size ∧ b2 < X.heap.size ∧ Below w.heap.size w X)) (by kernel_rfl) ⟨(unhide HRA).keep ((unhide HB).block b hb), (unhide HRB).keep ((unhide HB).block b2 hb2), Nat.lt_of_lt_of_le hb (unhide HB).size, Nat.lt_of_lt_of_le hb2 (unhide HB).size, (unhide HB).drew⟩ (fun hS0 => ?_)
      refine gpure 0 (some 17) (.slice (some ⟨b, off, none⟩) l.length cap) rfl (by kernel_rfl) (by kernel_rfl) (by kernel_rfl) (fun _ _ _ h => h) (by kernel_rfl) (by kernel_rfl) (fun _ => by kernel_rfl) hS0 ?_
      simp only [Act.put, List.setIfInBounds_toArray, List.set_cons_succ, List.set_cons_zero]
      refine gpure 1 (some 18) (.int .i64 (j : Int)) rfl (by kernel_rfl) (by kernel_rfl) (by kernel_rfl) (fun _ _ _ h => h) (by kernel_rfl) (by kernel_rfl) (fun _ => by kernel_rfl) hS0 ?_
      simp only [Act.put, List.setIfInBounds_toArray, List.set_cons_succ, List.set_cons_zero]
      refine gindex 2 (some 19) (x := .tmp 17) (ix := .tmp 18) (b := b) (off := off) (n := l.length) (cap := cap) j rfl (by kernel_rfl) (by kernel_rfl) (by kernel_rfl) (fun _ _ _ h => h) (by kernel_rfl) (by kernel_rfl) (by kernel_rfl) (by kernel_rfl) (by kernel_rfl) hlt hS0 ?_
      simp only [Act.put, List.setIfInBounds_toArray, List.set_cons_succ, List.set_cons_zero]
      refine gload 3 (some 20) (x := .tmp 19) (b := b) (p := off + j * 2) (d := d) rfl (by kernel_rfl) (by kernel_rfl) (by kernel_rfl) (fun _ _ _ h => h) (by kernel_rfl) (by kernel_rfl) (by kernel_rfl) (by kernel_rfl) (fun X hX => by rw [hd]; exact hX.1 j hlt) hS0 ?_
      simp only [Act.put, List.setIfInBounds_toArray, List.set_cons_succ, List.set_cons_zero]
      refine gpure 4 (some 21) (.slice (some ⟨b2, off2, none⟩) l.length cap2) rfl (by kernel_rfl) (by kernel_rfl) (by kernel_rfl) (fun _ _ _ h => h) (by kernel_rfl) (by kernel_rfl) (fun _ => by kernel_rfl) hS0 ?_
      simp only [Act.put, List.setIfInBounds_toArray, List.set_cons_succ, List.set_cons_zero]
      refine gpure 5 (some 22) (.int .i64 (j : Int)) rfl (by kernel_rfl) (by kernel_rfl) (by kernel_rfl) (fun _ _ _ h => h) (by kernel_rfl) (by kernel_rfl) (fun _ => by kernel_rfl) hS0 ?_
      simp only [Act.put, List.setIfInBounds_toArray, List.set_cons_succ, List.set_cons_zero]
      refine gindex 6 (some 23) (x := .tmp 21) (ix := .tmp 22) (b := b2) (off := off2) (n := l.length) (cap := cap2) j rfl (by kernel_rfl) (by kernel_rfl) (by kernel_rfl) (fun _ _ _ h => h) (by kernel_rfl) (by kernel_rfl) (by kernel_rfl) (by kernel_rfl) (by kernel_rfl) hlt hS0 ?_
      simp only [Act.put, List.setIfInBounds_toArray, List.set_cons_succ, List.set_cons_zero]
      refine gload 7 (some 24) (x := .tmp 23) (b := b2) (p := off2 + j * 2) (d := d) rfl (by kernel_rfl) (by kernel_rfl) (by kernel_rfl) (fun _ _ _ h => h) (by kernel_rfl) (by kernel_rfl) (by kernel_rfl) (by kernel_rfl) (fun X hX => by rw [hd]; exact hX.2.1 j hlt) hS0 ?_
      simp only [Act.put, List.setIfInBounds_toArray, List.set_cons_succ, List.set_cons_zero]
      refine gbin 8 (some 25) (b := .neq) (t := 23) (t2 := 23) (x := .tmp 20) (y := .tmp 24) (vx := d.agg) (vy := d.agg) (.bool false) rfl (by kernel_rfl) (by kernel_rfl) (by kernel_rfl) (fun _ _ _ h => h) (by kernel_rfl) (by kernel_rfl) (by kernel_rfl) (by kernel_rfl) (by kernel_rfl) (neq23 d) (fun _ => by kernel_rfl) hS0 ?_
      simp only [Act.put, List.setIfInBounds_toArray, List.set_cons_succ, List.set_cons_zero]
      refine wpAnyH_done (by kernel_rfl) ?_ _
      try simp only [Act.put, List.setIfInBounds_toArray, List.set_cons_succ, List.set_cons_zero]
      have HB1 := hide hS0.2.2.2.2
      clear hS0
      go_wp2
      go_roundg (l.length - (j + 1))
      case measure => omega
      case rel => exact ⟨j + 1, by go_num, by omega, Nat.le_refl _, HB1⟩
    · have hjz : ¬ (j : Int) < l.length := by omega
      go_wp2
      go_ret
      exact ⟨rfl, unhide HB⟩
set_option maxHeartbeats 20000000 in
set_option maxRecDepth 100000 in
theorem same_nil (A A2 : Option Addr) (cap cap2 : Nat) (w : World) : Calls Tryd.prog 10 #[.slice A 0 cap, .slice A2 0 cap2] w fun e w' => e = .returned (.bool true) ∧ Below w.heap.size w w' := by
  go_enter Tryd.func10, Tryd.ntmps10
  go_wp2_with fail
  go_loopg [5] 0 (fun g s5 wr => s5 = .int .i64 0 ∧ wr = w)
  case atStart => exact ⟨rfl, rfl⟩
  case round =>
    obtain ⟨rfl, rfl⟩ := hrel
    go_wp2
    go_ret
    exact ⟨rfl, Below.refl _ _⟩
theorem same10 (v u : Value) (l : List KK) (w : World) (h1 : ReadsK w v l) (h2 : ReadsK w u l) (hlen : l.length ≤ 10000) : Calls Tryd.prog 10 #[v, u] w fun e w' => e = .returned (.bool true) ∧ Below w.heap.size w w' := by
  by_cases h0 : l = []
  · subst h0
    rcases h1 with ⟨A, c, rfl, -⟩ | ⟨b, off, cap, rfl, -, -⟩ <;> rcases h2 with ⟨A2, c2, rfl, -⟩ | ⟨b2, off2, cap2, rfl, -, -⟩ <;> exact same_nil _ _ _ _ w
  · rcases h1 with ⟨_, _, _, h⟩ | ⟨b, off, cap, rfl, hb, hr⟩
    · exact absurd h h0
    · rcases h2 with ⟨_, _, _, h⟩ | ⟨b2, off2, cap2, rfl, hb2, hr2⟩
      · exact absurd h h0
      · exact same_rows b off cap b2 off2 cap2 l w hb hb2 hr hr2 hlen
end Go.Proofs.YtmlofbgnoaobfaaDoor
