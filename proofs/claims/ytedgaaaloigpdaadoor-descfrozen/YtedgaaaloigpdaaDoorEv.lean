import Derived.Test.YtedgaaaloigpdaaDoorEo
import Derived.Test.YtedgaaaloigpdaaDoorEu
import Derived.Deep.LoopGhost
import Derived.Test.YtedgaaaloigpdaaDoorEn
namespace Go.Proofs.YtedgaaaloigpdaaDoor
open Go Go.Proofs Go.RowKit FM
set_option linter.unusedSimpArgs false
set_option linter.unusedVariables false
set_option maxHeartbeats 20000000 in
set_option maxRecDepth 100000 in
theorem frozen_rows (b off cap : Nat) (n : DD) (hn : FD n) (l : List DD) (hfd : ∀ d ∈ l, FD d) (w : World) (hT : Lib.Utf8Tabs 1 2 w) (hb : b < w.heap.size) (hr : RowsD w b off l) (hlen : l.length ≤ 2932031007402) : Calls Tryd.prog 7 #[n.agg, .slice (some ⟨b, off, none⟩) l.length cap] w fun e w' => e = .returned (.bool true) ∧ Below w.heap.size w w' := by
  have HAw := hide awake_any
  have HW := hide (fun w hT => whole_any n hn w hT)
  have HFz := hide (fun w hT => freeze_any n hn w hT)
  have HT := hide hT
  clear hT
  have HFD := hide hfd
  have HRD := hide hr
  clear hfd hr
  have LL := hide (Kp.of1 (Lie.new1 w (.D n)))
  cases hwn : wholeV n
  · rw [hwn] at HW HFz
    have hz : frzV n = zeroD := by unfold frzV; rw [hwn]; rfl
    rw [hz] at HFz
    clear hz hwn hn
    have hq0 : n.agg = .agg #[.int .i64 n.v.k, .bool n.v.b, .float .f64 n.v.x, .string n.v.s, .int .i64 n.v.i, .int .i64 n.g.k, .bool n.g.b, .float .f64 n.g.x, .string n.g.s, .int .i64 n.g.i, .int .i64 n.s.k, .bool n.s.b, .float .f64 n.s.x, .string n.s.s, .int .i64 n.s.i, .int .i64 n.w, .int .i64 n.e, .int .i64 n.c] := rfl
    rw [hq0]
    clear hq0
    go_enter Tryd.func7, Tryd.ntmps7
    go_wp2_with (first | go_skip | ((with_reducible apply load27); (case ho => rfl); (case hw => rfl); (case hx => rfl); (case hc => first | exact (unhide LL).get 0 rfl | exact (unhide LL).get 1 rfl | exact (unhide LL).get 2 rfl | exact (unhide LL).get 3 rfl); simp only [Act.put, List.setIfInBounds_toArray, List.set_cons_succ, List.set_cons_zero]))
    refine (unhide HAw _ (tabs_below (unhide HT) (unhide LL).below)).mono ?_
    rintro _ w1 ⟨rfl, hb⟩
    replace LL := hide ((unhide LL).on hb)
    clear hb
    go_wp2_with (first | go_skip | ((with_reducible apply load27); (case ho => rfl); (case hw => rfl); (case hx => rfl); (case hc => first | exact (unhide LL).get 0 rfl | exact (unhide LL).get 1 rfl | exact (unhide LL).get 2 rfl | exact (unhide LL).get 3 rfl); simp only [Act.put, List.setIfInBounds_toArray, List.set_cons_succ, List.set_cons_zero]))
    refine (unhide HFz _ (tabs_below (unhide HT) (unhide LL).below)).mono ?_
    rintro _ w2 ⟨rfl, hb⟩
    replace LL := hide ((unhide LL).on hb)
    clear hb
    go_wp2_with (first | go_skip | ((with_reducible apply load27); (case ho => rfl); (case hw => rfl); (case hx => rfl); (case hc => first | exact (unhide LL).get 0 rfl | exact (unhide LL).get 1 rfl | exact (unhide LL).get 2 rfl | exact (unhide LL).get 3 rfl); simp only [Act.put, List.setIfInBounds_toArray, List.set_cons_succ, List.set_cons_zero]) | ((with_reducible apply kalloc27); (case ho => rfl); (case hw => rfl); (case hL => exact unhide LL); (intro X LX; simp only [Act.put, List.setIfInBounds_toArray, List.set_cons_succ, List.set_cons_zero]; simp only [List.cons_append, List.nil_append] at LX; replace LL := hide LX; clear LX)) | ((with_reducible apply kstore27 (u := zeroD) 1); (case ho => rfl); (case hw => rfl); (case hL => exact unhide LL); (case hx => rfl); (case hy => rfl); (case hi => rfl); (intro X LX; simp only [Act.put, List.setIfInBounds_toArray, List.set_cons_succ, List.set_cons_zero]; simp only [List.set_cons_succ, List.set_cons_zero] at LX; replace LL := hide LX; clear LX)))
    refine (unhide HW _ (tabs_below (unhide HT) (unhide LL).below)).mono ?_
    rintro _ w3 ⟨rfl, hb⟩
    replace LL := hide ((unhide LL).on hb)
    clear hb
    go_wp2_with (first | go_skip | ((with_reducible apply load27); (case ho => rfl); (case hw => rfl); (case hx => rfl); (case hc => first | exact (unhide LL).get 0 rfl | exact (unhide LL).get 1 rfl | exact (unhide LL).get 2 rfl | exact (unhide LL).get 3 rfl); simp only [Act.put, List.setIfInBounds_toArray, List.set_cons_succ, List.set_cons_zero]))
    go_ret
    exact ⟨rfl, (unhide LL).below⟩
  · rw [hwn] at HW HFz
    obtain ⟨k1, k2, k3⟩ := frz_first hwn
    have hff : FD (frzV n) := by
      unfold frzV
      rw [hwn]
      exact ⟨(by decide : (0 : Nat) < 2 ^ 64), (by decide : (0 : Nat) < 2 ^ 64), (by decide : (0 : Nat) < 2 ^ 64)⟩
    have hfa := fd_app true hn hff
    have HAp := hide (fun w hT => apply_any true n (frzV n) hn hff w hT)
    rw [k1, k2] at HAp
    have HF0 := hide (And.intro k3 hfa)
    clear k1 k2 k3 hff hfa hwn HW hn
    generalize appD true n (frzV n) = a0 at *
    generalize frzV n = f at *
    have hq0 : n.agg = .agg #[.int .i64 n.v.k, .bool n.v.b, .float .f64 n.v.x, .string n.v.s, .int .i64 n.v.i, .int .i64 n.g.k, .bool n.g.b, .float .f64 n.g.x, .string n.g.s, .int .i64 n.g.i, .int .i64 n.s.k, .bool n.s.b, .float .f64 n.s.x, .string n.s.s, .int .i64 n.s.i, .int .i64 n.w, .int .i64 n.e, .int .i64 n.c] := rfl
    rw [hq0]
    clear hq0
    go_enter Tryd.func7, Tryd.ntmps7
    go_wp2_with (first | go_skip | ((with_reducible apply load27); (case ho => rfl); (case hw => rfl); (case hx => rfl); (case hc => first | exact (unhide LL).get 0 rfl | exact (unhide LL).get 1 rfl | exact (unhide LL).get 2 rfl | exact (unhide LL).get 3 rfl); simp only [Act.put, List.setIfInBounds_toArray, List.set_cons_succ, List.set_cons_zero]))
    refine (unhide HAw _ (tabs_below (unhide HT) (unhide LL).below)).mono ?_
    rintro _ w1 ⟨rfl, hb⟩
    replace LL := hide ((unhide LL).on hb)
    clear hb
    go_wp2_with (first | go_skip | ((with_reducible apply load27); (case ho => rfl); (case hw => rfl); (case hx => rfl); (case hc => first | exact (unhide LL).get 0 rfl | exact (unhide LL).get 1 rfl | exact (unhide LL).get 2 rfl | exact (unhide LL).get 3 rfl); simp only [Act.put, List.setIfInBounds_toArray, List.set_cons_succ, List.set_cons_zero]))
    refine (unhide HFz _ (tabs_below (unhide HT) (unhide LL).below)).mono ?_
    rintro _ w2 ⟨rfl, hb⟩
    replace LL := hide ((unhide LL).on hb)
    clear hb
    go_wp2_with (first | go_skip | ((with_reducible apply load27); (case ho => rfl); (case hw => rfl); (case hx => rfl); (case hc => first | exact (unhide LL).get 0 rfl | exact (unhide LL).get 1 rfl | exact (unhide LL).get 2 rfl | exact (unhide LL).get 3 rfl); simp only [Act.put, List.setIfInBounds_toArray, List.set_cons_succ, List.set_cons_zero]) | ((with_reducible apply kalloc27); (case ho => rfl); (case hw => rfl); (case hL => exact unhide LL); (intro X LX; simp only [Act.put, List.setIfInBounds_toArray, List.set_cons_succ, List.set_cons_zero]; simp only [List.cons_append, List.nil_append] at LX; replace LL := hide LX; clear LX)) | ((with_reducible apply kstore27 (u := f) 1); (case ho => rfl); (case hw => rfl); (case hL => exact unhide LL); (case hx => rfl); (case hy => rfl); (case hi => rfl); (intro X LX; simp only [Act.put, List.setIfInBounds_toArray, List.set_cons_succ, List.set_cons_zero]; simp only [List.set_cons_succ, List.set_cons_zero] at LX; replace LL := hide LX; clear LX)))
    refine (unhide HAp _ (tabs_below (unhide HT) (unhide LL).below)).mono ?_
    rintro _ w3 ⟨rfl, hb⟩
    replace LL := hide ((unhide LL).on hb)
    clear hb
    go_wp2_with (first | go_skip | ((with_reducible apply load27); (case ho => rfl); (case hw => rfl); (case hx => rfl); (case hc => first | exact (unhide LL).get 0 rfl | exact (unhide LL).get 1 rfl | exact (unhide LL).get 2 rfl | exact (unhide LL).get 3 rfl); simp only [Act.put, List.setIfInBounds_toArray, List.set_cons_succ, List.set_cons_zero]) | ((with_reducible apply kalloc27); (case ho => rfl); (case hw => rfl); (case hL => exact unhide LL); (intro X LX; simp only [Act.put, List.setIfInBounds_toArray, List.set_cons_succ, List.set_cons_zero]; simp only [List.cons_append, List.nil_append] at LX; replace LL := hide LX; clear LX)) | ((with_reducible apply kstore27 (u := a0) 2); (case ho => rfl); (case hw => rfl); (case hL => exact unhide LL); (case hx => rfl); (case hy => rfl); (case hi => rfl); (intro X LX; simp only [Act.put, List.setIfInBounds_toArray, List.set_cons_succ, List.set_cons_zero]; simp only [List.set_cons_succ, List.set_cons_zero] at LX; replace LL := hide LX; clear LX)))
    go_loopg [9] l.length (fun g s9 wr => ∃ (j : Nat) (a : DD), s9 = .int .i64 j ∧ j ≤ l.length ∧ l.length - j ≤ g ∧ Hid (Fzn a ∧ FD a) ∧ Hid (Kp w wr [(w.heap.size, .D n), (w2.heap.size, .D f), (w3.heap.size, .D a)]))
    case atStart => exact ⟨0, a0, rfl, by omega, by omega, HF0, LL⟩
    case round =>
      obtain ⟨j, a, rfl, hj, hg, HF, HL⟩ := hrel
      by_cases hlt : j < l.length
      · have hjz : (j : Int) < l.length := by omega
        obtain ⟨r, hrem⟩ := rem2 j
        obtain ⟨d, hdj⟩ : ∃ d, d = l[j] := ⟨_, rfl⟩
        have hfd : FD d := by rw [hdj]; exact unhide HFD _ (List.getElem_mem hlt)
        have HR : Hid (∀ X, Kp w X [(w.heap.size, .D n), (w2.heap.size, .D f), (w3.heap.size, .D a)] → X.rangeAt b (off + j * 18) d.cs) := hide (fun X hX => by
          rw [hdj]
          exact (unhide HRD).keep (hX.below.block b hb) j hlt)
        have HX := hide (fun w hT => apply_any (r == 0) a d (unhide HF).2 hfd w hT)
        replace LL := HL
        clear HL
        by_cases hE : appE a d = 0
        · obtain ⟨s1, s2, s3⟩ := frz_step (r == 0) (unhide HF).1 hE
          have hf2 := fd_app (r == 0) (unhide HF).2 hfd
          have HSm := hide (fun w hT => sameD_any a (appD (r == 0) a d) (unhide HF).2 hf2 w hT)
          rw [s2, s3] at HSm
          rw [hE] at HX
          have HF2 := hide (And.intro s1 hf2)
          clear s1 s2 s3 hf2 hE hfd hdj
          generalize appD (r == 0) a d = A2 at *
          generalize appB (r == 0) a d = B2 at *
          go_wp2_with fail
          refine wp_region_held_drew (P := Tryd.prog) (S := fun X => Kp w X [(w.heap.size, .D n), (w2.heap.size, .D f), (w3.heap.size, .D a)]) (by kernel_rfl) (Kp.drew (unhide LL)) (fun hS0 => ?_)
          refine gpure 0 (some 47) (.int .i64 (j : Int)) rfl (by kernel_rfl) (by kernel_rfl) (by kernel_rfl) (fun _ _ _ h => h) (by kernel_rfl) (by kernel_rfl) (fun _ => by kernel_rfl) hS0 ?_
          simp only [Act.put, List.setIfInBounds_toArray, List.set_cons_succ, List.set_cons_zero]
          refine gbin 1 (some 48) (b := .rem) (t := 3) (t2 := 3) (vx := .int .i64 (j : Int)) (vy := .int .i64 2) (x := .tmp 47) (y := .const (.int .i64 2)) (.int .i64 r) rfl (by kernel_rfl) (by kernel_rfl) (by kernel_rfl) (fun _ _ _ h => h) (by kernel_rfl) (by kernel_rfl) (by kernel_rfl) (by kernel_rfl) (by kernel_rfl) hrem (fun _ => by kernel_rfl) hS0 ?_
          simp only [Act.put, List.setIfInBounds_toArray, List.set_cons_succ, List.set_cons_zero]
          refine gpure 2 (some 49) (.bool (r == 0)) rfl (by kernel_rfl) (by kernel_rfl) (by kernel_rfl) (fun _ _ _ h => h) (by kernel_rfl) (by kernel_rfl) (fun _ => by kernel_rfl) hS0 ?_
          simp only [Act.put, List.setIfInBounds_toArray, List.set_cons_succ, List.set_cons_zero]
          refine gload 3 (some 50) (x := .tmp 7) (b := w3.heap.size) (p := 0) (d := a) rfl (by kernel_rfl) (by kernel_rfl) (by kernel_rfl) (fun _ _ _ h => h) (by kernel_rfl) (by kernel_rfl) (by kernel_rfl) (by kernel_rfl) (fun X hX => Lies.range (hX.get 2 rfl)) hS0 ?_
          simp only [Act.put, List.setIfInBounds_toArray, List.set_cons_succ, List.set_cons_zero]
          refine gpure 4 (some 51) (.slice (some ⟨b, off, none⟩) l.length cap) rfl (by kernel_rfl) (by kernel_rfl) (by kernel_rfl) (fun _ _ _ h => h) (by kernel_rfl) (by kernel_rfl) (fun _ => by kernel_rfl) hS0 ?_
          simp only [Act.put, List.setIfInBounds_toArray, List.set_cons_succ, List.set_cons_zero]
          refine gpure 5 (some 52) (.int .i64 (j : Int)) rfl (by kernel_rfl) (by kernel_rfl) (by kernel_rfl) (fun _ _ _ h => h) (by kernel_rfl) (by kernel_rfl) (fun _ => by kernel_rfl) hS0 ?_
          simp only [Act.put, List.setIfInBounds_toArray, List.set_cons_succ, List.set_cons_zero]
          refine gindex 6 (some 53) (x := .tmp 51) (ix := .tmp 52) (b := b) (off := off) (n := l.length) (cap := cap) j rfl (by kernel_rfl) (by kernel_rfl) (by kernel_rfl) (fun _ _ _ h => h) (by kernel_rfl) (by kernel_rfl) (by kernel_rfl) (by kernel_rfl) (by kernel_rfl) hlt hS0 ?_
          simp only [Act.put, List.setIfInBounds_toArray, List.set_cons_succ, List.set_cons_zero]
          refine gload 7 (some 54) (x := .tmp 53) (b := b) (p := off + j * 18) (d := d) rfl (by kernel_rfl) (by kernel_rfl) (by kernel_rfl) (fun _ _ _ h => h) (by kernel_rfl) (by kernel_rfl) (by kernel_rfl) (by kernel_rfl) (unhide HR) hS0 ?_
          simp only [Act.put, List.setIfInBounds_toArray, List.set_cons_succ, List.set_cons_zero]
          refine wpAnyH_ready (rs := [8, 13]) (by kernel_rfl) (by simp) (gcall 8 (some 55) rfl (by kernel_rfl) (by kernel_rfl) (by kernel_rfl) (unhide HX _ (tabs_below (unhide HT) hS0.below)) (fun X hX => hS0.on hX) ?_ (galloc 13 (some 10) rfl (by kernel_rfl) (by kernel_rfl) (by kernel_rfl) (Kp.left (l := [_, _, _]) (m := [_]) (hS0.new (.D zeroD))) ?_ AllReadyH.nil))
          · intro X hX
            have hS1 := hS0.on hX
            clear hX hS0
            simp only [Act.put, List.setIfInBounds_toArray, List.set_cons_succ, List.set_cons_zero]
            refine gpure 9 (some 46) (.tuple #[(A2).agg, .bool B2, .int .i64 0]) rfl (by kernel_rfl) (by kernel_rfl) (by kernel_rfl) (fun _ _ _ h => h) (by kernel_rfl) (by kernel_rfl) (fun _ => by kernel_rfl) hS1 ?_
            simp only [Act.put, List.setIfInBounds_toArray, List.set_cons_succ, List.set_cons_zero]
            refine gpure 10 (some 56) ((A2).agg) rfl (by kernel_rfl) (by kernel_rfl) (by kernel_rfl) (fun _ _ _ h => h) (by kernel_rfl) (by kernel_rfl) (fun _ => by kernel_rfl) hS1 ?_
            simp only [Act.put, List.setIfInBounds_toArray, List.set_cons_succ, List.set_cons_zero]
            refine gpure 11 (some 57) (.bool B2) rfl (by kernel_rfl) (by kernel_rfl) (by kernel_rfl) (fun _ _ _ h => h) (by kernel_rfl) (by kernel_rfl) (fun _ => by kernel_rfl) hS1 ?_
            simp only [Act.put, List.setIfInBounds_toArray, List.set_cons_succ, List.set_cons_zero]
            refine gpure 12 (some 58) (.int .i64 0) rfl (by kernel_rfl) (by kernel_rfl) (by kernel_rfl) (fun _ _ _ h => h) (by kernel_rfl) (by kernel_rfl) (fun _ => by kernel_rfl) hS1 ?_
            simp only [Act.put, List.setIfInBounds_toArray, List.set_cons_succ, List.set_cons_zero]
            refine wpAnyH_ready (rs := [13]) (by kernel_rfl) (by simp) (galloc 13 (some 10) rfl (by kernel_rfl) (by kernel_rfl) (by kernel_rfl) (Kp.left (l := [_, _, _]) (m := [_]) (hS1.new (.D zeroD))) ?_ AllReadyH.nil)
            intro Y B hB hY
            have kk : Kp w Y [(w.heap.size, .D n), (w2.heap.size, .D f), (w3.heap.size, .D a), (B, .D zeroD)] := by rw [hY, hB]; exact hS1.new (.D zeroD)
            clear hB hY hS1
            simp only [Act.put, List.setIfInBounds_toArray, List.set_cons_succ, List.set_cons_zero]
            refine wpAnyH_ready (rs := [14]) (by kernel_rfl) (by simp) (gstore 14 (x := .tmp 10) (y := .tmp 56) (b := B) (d := zeroD) (u := A2) rfl (by kernel_rfl) (by kernel_rfl) (by kernel_rfl) (by kernel_rfl) (by kernel_rfl) (kk.get 3 rfl) (Kp.left (l := [_, _, _]) (m := [_]) (kk.put 3 rfl)) ?_ AllReadyH.nil)
            intro Z hZ
            have LX : Kp w Z [(w.heap.size, .D n), (w2.heap.size, .D f), (w3.heap.size, .D a), (B, .D A2)] := by rw [hZ]; exact kk.put 3 rfl
            clear hZ kk
            simp only [Act.put, List.setIfInBounds_toArray, List.set_cons_succ, List.set_cons_zero]
            have hSz := Kp.left (l := [_, _, _]) (m := [_]) LX
            refine gpure 15 (some 11) (.bool B2) rfl (by kernel_rfl) (by kernel_rfl) (by kernel_rfl) (fun _ _ _ h => h) (by kernel_rfl) (by kernel_rfl) (fun _ => by kernel_rfl) hSz ?_
            simp only [Act.put, List.setIfInBounds_toArray, List.set_cons_succ, List.set_cons_zero]
            refine gpure 16 (some 12) (.int .i64 0) rfl (by kernel_rfl) (by kernel_rfl) (by kernel_rfl) (fun _ _ _ h => h) (by kernel_rfl) (by kernel_rfl) (fun _ => by kernel_rfl) hSz ?_
            simp only [Act.put, List.setIfInBounds_toArray, List.set_cons_succ, List.set_cons_zero]
            refine wpAnyH_done (by kernel_rfl) ?_ _
            try simp only [Act.put, List.setIfInBounds_toArray, List.set_cons_succ, List.set_cons_zero]
            clear LL
            have LL := hide LX
            clear LX hSz
            go_wp2_with (first | go_skip | ((with_reducible apply load27); (case ho => rfl); (case hw => rfl); (case hx => rfl); (case hc => first | exact (unhide LL).get 0 rfl | exact (unhide LL).get 1 rfl | exact (unhide LL).get 2 rfl | exact (unhide LL).get 3 rfl); simp only [Act.put, List.setIfInBounds_toArray, List.set_cons_succ, List.set_cons_zero]))
            refine (unhide HSm _ (tabs_below (unhide HT) (unhide LL).below)).mono ?_
            rintro _ w11 ⟨rfl, hb⟩
            replace LL := hide ((unhide LL).on hb)
            clear hb
            go_wp2_with (first | go_skip | ((with_reducible apply load27); (case ho => rfl); (case hw => rfl); (case hx => rfl); (case hc => first | exact (unhide LL).get 0 rfl | exact (unhide LL).get 1 rfl | exact (unhide LL).get 2 rfl | exact (unhide LL).get 3 rfl); simp only [Act.put, List.setIfInBounds_toArray, List.set_cons_succ, List.set_cons_zero]) | ((with_reducible apply kstore27 (u := A2) 2); (case ho => rfl); (case hw => rfl); (case hL => exact unhide LL); (case hx => rfl); (case hy => rfl); (case hi => rfl); (intro X LX; simp only [Act.put, List.setIfInBounds_toArray, List.set_cons_succ, List.set_cons_zero]; simp only [List.set_cons_succ, List.set_cons_zero] at LX; replace LL := hide LX; clear LX)))
            go_roundg (l.length - (j + 1))
            case measure => omega
            case rel => exact ⟨j + 1, A2, by go_num, by omega, Nat.le_refl _, HF2, hide (Kp.left (l := [_, _, _]) (m := [_]) (unhide LL))⟩
          · intro Y B hB hY
            have kk : Kp w Y [(w.heap.size, .D n), (w2.heap.size, .D f), (w3.heap.size, .D a), (B, .D zeroD)] := by rw [hY, hB]; exact hS0.new (.D zeroD)
            clear hB hY hS0
            simp only [Act.put, List.setIfInBounds_toArray, List.set_cons_succ, List.set_cons_zero]
            refine wpAnyH_ready (rs := [8]) (by kernel_rfl) (by simp) (gcall 8 (some 55) rfl (by kernel_rfl) (by kernel_rfl) (by kernel_rfl) (unhide HX _ (tabs_below (unhide HT) kk.below)) (fun X hX => Kp.left (l := [_, _, _]) (m := [_]) (kk.on hX)) ?_ AllReadyH.nil)
            intro X hX
            replace kk := kk.on hX
            have hS1 := Kp.left (l := [_, _, _]) (m := [_]) kk
            clear hX
            simp only [Act.put, List.setIfInBounds_toArray, List.set_cons_succ, List.set_cons_zero]
            refine gpure 9 (some 46) (.tuple #[(A2).agg, .bool B2, .int .i64 0]) rfl (by kernel_rfl) (by kernel_rfl) (by kernel_rfl) (fun _ _ _ h => h) (by kernel_rfl) (by kernel_rfl) (fun _ => by kernel_rfl) hS1 ?_
            simp only [Act.put, List.setIfInBounds_toArray, List.set_cons_succ, List.set_cons_zero]
            refine gpure 10 (some 56) ((A2).agg) rfl (by kernel_rfl) (by kernel_rfl) (by kernel_rfl) (fun _ _ _ h => h) (by kernel_rfl) (by kernel_rfl) (fun _ => by kernel_rfl) hS1 ?_
            simp only [Act.put, List.setIfInBounds_toArray, List.set_cons_succ, List.set_cons_zero]
            refine gpure 11 (some 57) (.bool B2) rfl (by kernel_rfl) (by kernel_rfl) (by kernel_rfl) (fun _ _ _ h => h) (by kernel_rfl) (by kernel_rfl) (fun _ => by kernel_rfl) hS1 ?_
            simp only [Act.put, List.setIfInBounds_toArray, List.set_cons_succ, List.set_cons_zero]
            refine gpure 12 (some 58) (.int .i64 0) rfl (by kernel_rfl) (by kernel_rfl) (by kernel_rfl) (fun _ _ _ h => h) (by kernel_rfl) (by kernel_rfl) (fun _ => by kernel_rfl) hS1 ?_
            simp only [Act.put, List.setIfInBounds_toArray, List.set_cons_succ, List.set_cons_zero]
            clear hS1
            refine wpAnyH_ready (rs := [14]) (by kernel_rfl) (by simp) (gstore 14 (x := .tmp 10) (y := .tmp 56) (b := B) (d := zeroD) (u := A2) rfl (by kernel_rfl) (by kernel_rfl) (by kernel_rfl) (by kernel_rfl) (by kernel_rfl) (kk.get 3 rfl) (Kp.left (l := [_, _, _]) (m := [_]) (kk.put 3 rfl)) ?_ AllReadyH.nil)
            intro Z hZ
            have LX : Kp w Z [(w.heap.size, .D n), (w2.heap.size, .D f), (w3.heap.size, .D a), (B, .D A2)] := by rw [hZ]; exact kk.put 3 rfl
            clear hZ kk
            simp only [Act.put, List.setIfInBounds_toArray, List.set_cons_succ, List.set_cons_zero]
            have hSz := Kp.left (l := [_, _, _]) (m := [_]) LX
            refine gpure 15 (some 11) (.bool B2) rfl (by kernel_rfl) (by kernel_rfl) (by kernel_rfl) (fun _ _ _ h => h) (by kernel_rfl) (by kernel_rfl) (fun _ => by kernel_rfl) hSz ?_
            simp only [Act.put, List.setIfInBounds_toArray, List.set_cons_succ, List.set_cons_zero]
            refine gpure 16 (some 12) (.int .i64 0) rfl (by kernel_rfl) (by kernel_rfl) (by kernel_rfl) (fun _ _ _ h => h) (by kernel_rfl) (by kernel_rfl) (fun _ => by kernel_rfl) hSz ?_
            simp only [Act.put, List.setIfInBounds_toArray, List.set_cons_succ, List.set_cons_zero]
            refine wpAnyH_done (by kernel_rfl) ?_ _
            try simp only [Act.put, List.setIfInBounds_toArray, List.set_cons_succ, List.set_cons_zero]
            clear LL
            have LL := hide LX
            clear LX hSz
            go_wp2_with (first | go_skip | ((with_reducible apply load27); (case ho => rfl); (case hw => rfl); (case hx => rfl); (case hc => first | exact (unhide LL).get 0 rfl | exact (unhide LL).get 1 rfl | exact (unhide LL).get 2 rfl | exact (unhide LL).get 3 rfl); simp only [Act.put, List.setIfInBounds_toArray, List.set_cons_succ, List.set_cons_zero]))
            refine (unhide HSm _ (tabs_below (unhide HT) (unhide LL).below)).mono ?_
            rintro _ w11 ⟨rfl, hb⟩
            replace LL := hide ((unhide LL).on hb)
            clear hb
            go_wp2_with (first | go_skip | ((with_reducible apply load27); (case ho => rfl); (case hw => rfl); (case hx => rfl); (case hc => first | exact (unhide LL).get 0 rfl | exact (unhide LL).get 1 rfl | exact (unhide LL).get 2 rfl | exact (unhide LL).get 3 rfl); simp only [Act.put, List.setIfInBounds_toArray, List.set_cons_succ, List.set_cons_zero]) | ((with_reducible apply kstore27 (u := A2) 2); (case ho => rfl); (case hw => rfl); (case hL => exact unhide LL); (case hx => rfl); (case hy => rfl); (case hi => rfl); (intro X LX; simp only [Act.put, List.setIfInBounds_toArray, List.set_cons_succ, List.set_cons_zero]; simp only [List.set_cons_succ, List.set_cons_zero] at LX; replace LL := hide LX; clear LX)))
            go_roundg (l.length - (j + 1))
            case measure => omega
            case rel => exact ⟨j + 1, A2, by go_num, by omega, Nat.le_refl _, HF2, hide (Kp.left (l := [_, _, _]) (m := [_]) (unhide LL))⟩
        · obtain ⟨e1, e2, e3⟩ := app_err (x := (r == 0)) hE
          rw [e1, e2, e3] at HX
          clear e1 e2 e3 hE hfd hdj
          go_wp2_with fail
          refine wp_region_held_drew (P := Tryd.prog) (S := fun X => Kp w X [(w.heap.size, .D n), (w2.heap.size, .D f), (w3.heap.size, .D a)]) (by kernel_rfl) (Kp.drew (unhide LL)) (fun hS0 => ?_)
          refine gpure 0 (some 47) (.int .i64 (j : Int)) rfl (by kernel_rfl) (by kernel_rfl) (by kernel_rfl) (fun _ _ _ h => h) (by kernel_rfl) (by kernel_rfl) (fun _ => by kernel_rfl) hS0 ?_
          simp only [Act.put, List.setIfInBounds_toArray, List.set_cons_succ, List.set_cons_zero]
          refine gbin 1 (some 48) (b := .rem) (t := 3) (t2 := 3) (vx := .int .i64 (j : Int)) (vy := .int .i64 2) (x := .tmp 47) (y := .const (.int .i64 2)) (.int .i64 r) rfl (by kernel_rfl) (by kernel_rfl) (by kernel_rfl) (fun _ _ _ h => h) (by kernel_rfl) (by kernel_rfl) (by kernel_rfl) (by kernel_rfl) (by kernel_rfl) hrem (fun _ => by kernel_rfl) hS0 ?_
          simp only [Act.put, List.setIfInBounds_toArray, List.set_cons_succ, List.set_cons_zero]
          refine gpure 2 (some 49) (.bool (r == 0)) rfl (by kernel_rfl) (by kernel_rfl) (by kernel_rfl) (fun _ _ _ h => h) (by kernel_rfl) (by kernel_rfl) (fun _ => by kernel_rfl) hS0 ?_
          simp only [Act.put, List.setIfInBounds_toArray, List.set_cons_succ, List.set_cons_zero]
          refine gload 3 (some 50) (x := .tmp 7) (b := w3.heap.size) (p := 0) (d := a) rfl (by kernel_rfl) (by kernel_rfl) (by kernel_rfl) (fun _ _ _ h => h) (by kernel_rfl) (by kernel_rfl) (by kernel_rfl) (by kernel_rfl) (fun X hX => Lies.range (hX.get 2 rfl)) hS0 ?_
          simp only [Act.put, List.setIfInBounds_toArray, List.set_cons_succ, List.set_cons_zero]
          refine gpure 4 (some 51) (.slice (some ⟨b, off, none⟩) l.length cap) rfl (by kernel_rfl) (by kernel_rfl) (by kernel_rfl) (fun _ _ _ h => h) (by kernel_rfl) (by kernel_rfl) (fun _ => by kernel_rfl) hS0 ?_
          simp only [Act.put, List.setIfInBounds_toArray, List.set_cons_succ, List.set_cons_zero]
          refine gpure 5 (some 52) (.int .i64 (j : Int)) rfl (by kernel_rfl) (by kernel_rfl) (by kernel_rfl) (fun _ _ _ h => h) (by kernel_rfl) (by kernel_rfl) (fun _ => by kernel_rfl) hS0 ?_
          simp only [Act.put, List.setIfInBounds_toArray, List.set_cons_succ, List.set_cons_zero]
          refine gindex 6 (some 53) (x := .tmp 51) (ix := .tmp 52) (b := b) (off := off) (n := l.length) (cap := cap) j rfl (by kernel_rfl) (by kernel_rfl) (by kernel_rfl) (fun _ _ _ h => h) (by kernel_rfl) (by kernel_rfl) (by kernel_rfl) (by kernel_rfl) (by kernel_rfl) hlt hS0 ?_
          simp only [Act.put, List.setIfInBounds_toArray, List.set_cons_succ, List.set_cons_zero]
          refine gload 7 (some 54) (x := .tmp 53) (b := b) (p := off + j * 18) (d := d) rfl (by kernel_rfl) (by kernel_rfl) (by kernel_rfl) (fun _ _ _ h => h) (by kernel_rfl) (by kernel_rfl) (by kernel_rfl) (by kernel_rfl) (unhide HR) hS0 ?_
          simp only [Act.put, List.setIfInBounds_toArray, List.set_cons_succ, List.set_cons_zero]
          refine wpAnyH_ready (rs := [8, 13]) (by kernel_rfl) (by simp) (gcall 8 (some 55) rfl (by kernel_rfl) (by kernel_rfl) (by kernel_rfl) (unhide HX _ (tabs_below (unhide HT) hS0.below)) (fun X hX => hS0.on hX) ?_ (galloc 13 (some 10) rfl (by kernel_rfl) (by kernel_rfl) (by kernel_rfl) (Kp.left (l := [_, _, _]) (m := [_]) (hS0.new (.D zeroD))) ?_ AllReadyH.nil))
          · intro X hX
            have hS1 := hS0.on hX
            clear hX hS0
            simp only [Act.put, List.setIfInBounds_toArray, List.set_cons_succ, List.set_cons_zero]
            refine gpure 9 (some 46) (.tuple #[(zeroD).agg, .bool false, .int .i64 5]) rfl (by kernel_rfl) (by kernel_rfl) (by kernel_rfl) (fun _ _ _ h => h) (by kernel_rfl) (by kernel_rfl) (fun _ => by kernel_rfl) hS1 ?_
            simp only [Act.put, List.setIfInBounds_toArray, List.set_cons_succ, List.set_cons_zero]
            refine gpure 10 (some 56) ((zeroD).agg) rfl (by kernel_rfl) (by kernel_rfl) (by kernel_rfl) (fun _ _ _ h => h) (by kernel_rfl) (by kernel_rfl) (fun _ => by kernel_rfl) hS1 ?_
            simp only [Act.put, List.setIfInBounds_toArray, List.set_cons_succ, List.set_cons_zero]
            refine gpure 11 (some 57) (.bool false) rfl (by kernel_rfl) (by kernel_rfl) (by kernel_rfl) (fun _ _ _ h => h) (by kernel_rfl) (by kernel_rfl) (fun _ => by kernel_rfl) hS1 ?_
            simp only [Act.put, List.setIfInBounds_toArray, List.set_cons_succ, List.set_cons_zero]
            refine gpure 12 (some 58) (.int .i64 5) rfl (by kernel_rfl) (by kernel_rfl) (by kernel_rfl) (fun _ _ _ h => h) (by kernel_rfl) (by kernel_rfl) (fun _ => by kernel_rfl) hS1 ?_
            simp only [Act.put, List.setIfInBounds_toArray, List.set_cons_succ, List.set_cons_zero]
            refine wpAnyH_ready (rs := [13]) (by kernel_rfl) (by simp) (galloc 13 (some 10) rfl (by kernel_rfl) (by kernel_rfl) (by kernel_rfl) (Kp.left (l := [_, _, _]) (m := [_]) (hS1.new (.D zeroD))) ?_ AllReadyH.nil)
            intro Y B hB hY
            have kk : Kp w Y [(w.heap.size, .D n), (w2.heap.size, .D f), (w3.heap.size, .D a), (B, .D zeroD)] := by rw [hY, hB]; exact hS1.new (.D zeroD)
            clear hB hY hS1
            simp only [Act.put, List.setIfInBounds_toArray, List.set_cons_succ, List.set_cons_zero]
            refine wpAnyH_ready (rs := [14]) (by kernel_rfl) (by simp) (gstore 14 (x := .tmp 10) (y := .tmp 56) (b := B) (d := zeroD) (u := zeroD) rfl (by kernel_rfl) (by kernel_rfl) (by kernel_rfl) (by kernel_rfl) (by kernel_rfl) (kk.get 3 rfl) (Kp.left (l := [_, _, _]) (m := [_]) (kk.put 3 rfl)) ?_ AllReadyH.nil)
            intro Z hZ
            have LX : Kp w Z [(w.heap.size, .D n), (w2.heap.size, .D f), (w3.heap.size, .D a), (B, .D zeroD)] := by rw [hZ]; exact kk.put 3 rfl
            clear hZ kk
            simp only [Act.put, List.setIfInBounds_toArray, List.set_cons_succ, List.set_cons_zero]
            have hSz := Kp.left (l := [_, _, _]) (m := [_]) LX
            refine gpure 15 (some 11) (.bool false) rfl (by kernel_rfl) (by kernel_rfl) (by kernel_rfl) (fun _ _ _ h => h) (by kernel_rfl) (by kernel_rfl) (fun _ => by kernel_rfl) hSz ?_
            simp only [Act.put, List.setIfInBounds_toArray, List.set_cons_succ, List.set_cons_zero]
            refine gpure 16 (some 12) (.int .i64 5) rfl (by kernel_rfl) (by kernel_rfl) (by kernel_rfl) (fun _ _ _ h => h) (by kernel_rfl) (by kernel_rfl) (fun _ => by kernel_rfl) hSz ?_
            simp only [Act.put, List.setIfInBounds_toArray, List.set_cons_succ, List.set_cons_zero]
            refine wpAnyH_done (by kernel_rfl) ?_ _
            try simp only [Act.put, List.setIfInBounds_toArray, List.set_cons_succ, List.set_cons_zero]
            clear LL
            have LL := hide LX
            clear LX hSz
            go_wp2_with (first | go_skip | ((with_reducible apply load27); (case ho => rfl); (case hw => rfl); (case hx => rfl); (case hc => first | exact (unhide LL).get 0 rfl | exact (unhide LL).get 1 rfl | exact (unhide LL).get 2 rfl | exact (unhide LL).get 3 rfl); simp only [Act.put, List.setIfInBounds_toArray, List.set_cons_succ, List.set_cons_zero]))
            go_roundg (l.length - (j + 1))
            case measure => omega
            case rel => exact ⟨j + 1, a, by go_num, by omega, Nat.le_refl _, HF, hide (Kp.left (l := [_, _, _]) (m := [_]) (unhide LL))⟩
          · intro Y B hB hY
            have kk : Kp w Y [(w.heap.size, .D n), (w2.heap.size, .D f), (w3.heap.size, .D a), (B, .D zeroD)] := by rw [hY, hB]; exact hS0.new (.D zeroD)
            clear hB hY hS0
            simp only [Act.put, List.setIfInBounds_toArray, List.set_cons_succ, List.set_cons_zero]
            refine wpAnyH_ready (rs := [8]) (by kernel_rfl) (by simp) (gcall 8 (some 55) rfl (by kernel_rfl) (by kernel_rfl) (by kernel_rfl) (unhide HX _ (tabs_below (unhide HT) kk.below)) (fun X hX => Kp.left (l := [_, _, _]) (m := [_]) (kk.on hX)) ?_ AllReadyH.nil)
            intro X hX
            replace kk := kk.on hX
            have hS1 := Kp.left (l := [_, _, _]) (m := [_]) kk
            clear hX
            simp only [Act.put, List.setIfInBounds_toArray, List.set_cons_succ, List.set_cons_zero]
            refine gpure 9 (some 46) (.tuple #[(zeroD).agg, .bool false, .int .i64 5]) rfl (by kernel_rfl) (by kernel_rfl) (by kernel_rfl) (fun _ _ _ h => h) (by kernel_rfl) (by kernel_rfl) (fun _ => by kernel_rfl) hS1 ?_
            simp only [Act.put, List.setIfInBounds_toArray, List.set_cons_succ, List.set_cons_zero]
            refine gpure 10 (some 56) ((zeroD).agg) rfl (by kernel_rfl) (by kernel_rfl) (by kernel_rfl) (fun _ _ _ h => h) (by kernel_rfl) (by kernel_rfl) (fun _ => by kernel_rfl) hS1 ?_
            simp only [Act.put, List.setIfInBounds_toArray, List.set_cons_succ, List.set_cons_zero]
            refine gpure 11 (some 57) (.bool false) rfl (by kernel_rfl) (by kernel_rfl) (by kernel_rfl) (fun _ _ _ h => h) (by kernel_rfl) (by kernel_rfl) (fun _ => by kernel_rfl) hS1 ?_
            simp only [Act.put, List.setIfInBounds_toArray, List.set_cons_succ, List.set_cons_zero]
            refine gpure 12 (some 58) (.int .i64 5) rfl (by kernel_rfl) (by kernel_rfl) (by kernel_rfl) (fun _ _ _ h => h) (by kernel_rfl) (by kernel_rfl) (fun _ => by kernel_rfl) hS1 ?_
            simp only [Act.put, List.setIfInBounds_toArray, List.set_cons_succ, List.set_cons_zero]
            clear hS1
            refine wpAnyH_ready (rs := [14]) (by kernel_rfl) (by simp) (gstore 14 (x := .tmp 10) (y := .tmp 56) (b := B) (d := zeroD) (u := zeroD) rfl (by kernel_rfl) (by kernel_rfl) (by kernel_rfl) (by kernel_rfl) (by kernel_rfl) (kk.get 3 rfl) (Kp.left (l := [_, _, _]) (m := [_]) (kk.put 3 rfl)) ?_ AllReadyH.nil)
            intro Z hZ
            have LX : Kp w Z [(w.heap.size, .D n), (w2.heap.size, .D f), (w3.heap.size, .D a), (B, .D zeroD)] := by rw [hZ]; exact kk.put 3 rfl
            clear hZ kk
            simp only [Act.put, List.setIfInBounds_toArray, List.set_cons_succ, List.set_cons_zero]
            have hSz := Kp.left (l := [_, _, _]) (m := [_]) LX
            refine gpure 15 (some 11) (.bool false) rfl (by kernel_rfl) (by kernel_rfl) (by kernel_rfl) (fun _ _ _ h => h) (by kernel_rfl) (by kernel_rfl) (fun _ => by kernel_rfl) hSz ?_
            simp only [Act.put, List.setIfInBounds_toArray, List.set_cons_succ, List.set_cons_zero]
            refine gpure 16 (some 12) (.int .i64 5) rfl (by kernel_rfl) (by kernel_rfl) (by kernel_rfl) (fun _ _ _ h => h) (by kernel_rfl) (by kernel_rfl) (fun _ => by kernel_rfl) hSz ?_
            simp only [Act.put, List.setIfInBounds_toArray, List.set_cons_succ, List.set_cons_zero]
            refine wpAnyH_done (by kernel_rfl) ?_ _
            try simp only [Act.put, List.setIfInBounds_toArray, List.set_cons_succ, List.set_cons_zero]
            clear LL
            have LL := hide LX
            clear LX hSz
            go_wp2_with (first | go_skip | ((with_reducible apply load27); (case ho => rfl); (case hw => rfl); (case hx => rfl); (case hc => first | exact (unhide LL).get 0 rfl | exact (unhide LL).get 1 rfl | exact (unhide LL).get 2 rfl | exact (unhide LL).get 3 rfl); simp only [Act.put, List.setIfInBounds_toArray, List.set_cons_succ, List.set_cons_zero]))
            go_roundg (l.length - (j + 1))
            case measure => omega
            case rel => exact ⟨j + 1, a, by go_num, by omega, Nat.le_refl _, HF, hide (Kp.left (l := [_, _, _]) (m := [_]) (unhide LL))⟩
      · have hjz : ¬ (j : Int) < l.length := by omega
        go_wp2
        go_ret
        exact ⟨rfl, (unhide HL).below⟩
set_option maxHeartbeats 20000000 in
set_option maxRecDepth 100000 in
theorem frozen_nil (A : Option Addr) (cap : Nat) (n : DD) (hn : FD n) (w : World) (hT : Lib.Utf8Tabs 1 2 w) : Calls Tryd.prog 7 #[n.agg, .slice A 0 cap] w fun e w' => e = .returned (.bool true) ∧ Below w.heap.size w w' := by
  have HAw := hide awake_any
  have HW := hide (fun w hT => whole_any n hn w hT)
  have HFz := hide (fun w hT => freeze_any n hn w hT)
  have HT := hide hT
  clear hT
  have LL := hide (Kp.of1 (Lie.new1 w (.D n)))
  cases hwn : wholeV n
  · rw [hwn] at HW HFz
    have hz : frzV n = zeroD := by unfold frzV; rw [hwn]; rfl
    rw [hz] at HFz
    clear hz hwn hn
    have hq0 : n.agg = .agg #[.int .i64 n.v.k, .bool n.v.b, .float .f64 n.v.x, .string n.v.s, .int .i64 n.v.i, .int .i64 n.g.k, .bool n.g.b, .float .f64 n.g.x, .string n.g.s, .int .i64 n.g.i, .int .i64 n.s.k, .bool n.s.b, .float .f64 n.s.x, .string n.s.s, .int .i64 n.s.i, .int .i64 n.w, .int .i64 n.e, .int .i64 n.c] := rfl
    rw [hq0]
    clear hq0
    go_enter Tryd.func7, Tryd.ntmps7
    go_wp2_with (first | go_skip | ((with_reducible apply load27); (case ho => rfl); (case hw => rfl); (case hx => rfl); (case hc => first | exact (unhide LL).get 0 rfl | exact (unhide LL).get 1 rfl | exact (unhide LL).get 2 rfl | exact (unhide LL).get 3 rfl); simp only [Act.put, List.setIfInBounds_toArray, List.set_cons_succ, List.set_cons_zero]))
    refine (unhide HAw _ (tabs_below (unhide HT) (unhide LL).below)).mono ?_
    rintro _ w1 ⟨rfl, hb⟩
    replace LL := hide ((unhide LL).on hb)
    clear hb
    go_wp2_with (first | go_skip | ((with_reducible apply load27); (case ho => rfl); (case hw => rfl); (case hx => rfl); (case hc => first | exact (unhide LL).get 0 rfl | exact (unhide LL).get 1 rfl | exact (unhide LL).get 2 rfl | exact (unhide LL).get 3 rfl); simp only [Act.put, List.setIfInBounds_toArray, List.set_cons_succ, List.set_cons_zero]))
    refine (unhide HFz _ (tabs_below (unhide HT) (unhide LL).below)).mono ?_
    rintro _ w2 ⟨rfl, hb⟩
    replace LL := hide ((unhide LL).on hb)
    clear hb
    go_wp2_with (first | go_skip | ((with_reducible apply load27); (case ho => rfl); (case hw => rfl); (case hx => rfl); (case hc => first | exact (unhide LL).get 0 rfl | exact (unhide LL).get 1 rfl | exact (unhide LL).get 2 rfl | exact (unhide LL).get 3 rfl); simp only [Act.put, List.setIfInBounds_toArray, List.set_cons_succ, List.set_cons_zero]) | ((with_reducible apply kalloc27); (case ho => rfl); (case hw => rfl); (case hL => exact unhide LL); (intro X LX; simp only [Act.put, List.setIfInBounds_toArray, List.set_cons_succ, List.set_cons_zero]; simp only [List.cons_append, List.nil_append] at LX; replace LL := hide LX; clear LX)) | ((with_reducible apply kstore27 (u := zeroD) 1); (case ho => rfl); (case hw => rfl); (case hL => exact unhide LL); (case hx => rfl); (case hy => rfl); (case hi => rfl); (intro X LX; simp only [Act.put, List.setIfInBounds_toArray, List.set_cons_succ, List.set_cons_zero]; simp only [List.set_cons_succ, List.set_cons_zero] at LX; replace LL := hide LX; clear LX)))
    refine (unhide HW _ (tabs_below (unhide HT) (unhide LL).below)).mono ?_
    rintro _ w3 ⟨rfl, hb⟩
    replace LL := hide ((unhide LL).on hb)
    clear hb
    go_wp2_with (first | go_skip | ((with_reducible apply load27); (case ho => rfl); (case hw => rfl); (case hx => rfl); (case hc => first | exact (unhide LL).get 0 rfl | exact (unhide LL).get 1 rfl | exact (unhide LL).get 2 rfl | exact (unhide LL).get 3 rfl); simp only [Act.put, List.setIfInBounds_toArray, List.set_cons_succ, List.set_cons_zero]))
    go_ret
    exact ⟨rfl, (unhide LL).below⟩
  · rw [hwn] at HW HFz
    obtain ⟨k1, k2, k3⟩ := frz_first hwn
    have hff : FD (frzV n) := by
      unfold frzV
      rw [hwn]
      exact ⟨(by decide : (0 : Nat) < 2 ^ 64), (by decide : (0 : Nat) < 2 ^ 64), (by decide : (0 : Nat) < 2 ^ 64)⟩
    have hfa := fd_app true hn hff
    have HAp := hide (fun w hT => apply_any true n (frzV n) hn hff w hT)
    rw [k1, k2] at HAp
    have HF0 := hide (And.intro k3 hfa)
    clear k1 k2 k3 hff hfa hwn HW hn
    generalize appD true n (frzV n) = a0 at *
    generalize frzV n = f at *
    have hq0 : n.agg = .agg #[.int .i64 n.v.k, .bool n.v.b, .float .f64 n.v.x, .string n.v.s, .int .i64 n.v.i, .int .i64 n.g.k, .bool n.g.b, .float .f64 n.g.x, .string n.g.s, .int .i64 n.g.i, .int .i64 n.s.k, .bool n.s.b, .float .f64 n.s.x, .string n.s.s, .int .i64 n.s.i, .int .i64 n.w, .int .i64 n.e, .int .i64 n.c] := rfl
    rw [hq0]
    clear hq0
    go_enter Tryd.func7, Tryd.ntmps7
    go_wp2_with (first | go_skip | ((with_reducible apply load27); (case ho => rfl); (case hw => rfl); (case hx => rfl); (case hc => first | exact (unhide LL).get 0 rfl | exact (unhide LL).get 1 rfl | exact (unhide LL).get 2 rfl | exact (unhide LL).get 3 rfl); simp only [Act.put, List.setIfInBounds_toArray, List.set_cons_succ, List.set_cons_zero]))
    refine (unhide HAw _ (tabs_below (unhide HT) (unhide LL).below)).mono ?_
    rintro _ w1 ⟨rfl, hb⟩
    replace LL := hide ((unhide LL).on hb)
    clear hb
    go_wp2_with (first | go_skip | ((with_reducible apply load27); (case ho => rfl); (case hw => rfl); (case hx => rfl); (case hc => first | exact (unhide LL).get 0 rfl | exact (unhide LL).get 1 rfl | exact (unhide LL).get 2 rfl | exact (unhide LL).get 3 rfl); simp only [Act.put, List.setIfInBounds_toArray, List.set_cons_succ, List.set_cons_zero]))
    refine (unhide HFz _ (tabs_below (unhide HT) (unhide LL).below)).mono ?_
    rintro _ w2 ⟨rfl, hb⟩
    replace LL := hide ((unhide LL).on hb)
    clear hb
    go_wp2_with (first | go_skip | ((with_reducible apply load27); (case ho => rfl); (case hw => rfl); (case hx => rfl); (case hc => first | exact (unhide LL).get 0 rfl | exact (unhide LL).get 1 rfl | exact (unhide LL).get 2 rfl | exact (unhide LL).get 3 rfl); simp only [Act.put, List.setIfInBounds_toArray, List.set_cons_succ, List.set_cons_zero]) | ((with_reducible apply kalloc27); (case ho => rfl); (case hw => rfl); (case hL => exact unhide LL); (intro X LX; simp only [Act.put, List.setIfInBounds_toArray, List.set_cons_succ, List.set_cons_zero]; simp only [List.cons_append, List.nil_append] at LX; replace LL := hide LX; clear LX)) | ((with_reducible apply kstore27 (u := f) 1); (case ho => rfl); (case hw => rfl); (case hL => exact unhide LL); (case hx => rfl); (case hy => rfl); (case hi => rfl); (intro X LX; simp only [Act.put, List.setIfInBounds_toArray, List.set_cons_succ, List.set_cons_zero]; simp only [List.set_cons_succ, List.set_cons_zero] at LX; replace LL := hide LX; clear LX)))
    refine (unhide HAp _ (tabs_below (unhide HT) (unhide LL).below)).mono ?_
    rintro _ w3 ⟨rfl, hb⟩
    replace LL := hide ((unhide LL).on hb)
    clear hb
    go_wp2_with (first | go_skip | ((with_reducible apply load27); (case ho => rfl); (case hw => rfl); (case hx => rfl); (case hc => first | exact (unhide LL).get 0 rfl | exact (unhide LL).get 1 rfl | exact (unhide LL).get 2 rfl | exact (unhide LL).get 3 rfl); simp only [Act.put, List.setIfInBounds_toArray, List.set_cons_succ, List.set_cons_zero]) | ((with_reducible apply kalloc27); (case ho => rfl); (case hw => rfl); (case hL => exact unhide LL); (intro X LX; simp only [Act.put, List.setIfInBounds_toArray, List.set_cons_succ, List.set_cons_zero]; simp only [List.cons_append, List.nil_append] at LX; replace LL := hide LX; clear LX)) | ((with_reducible apply kstore27 (u := a0) 2); (case ho => rfl); (case hw => rfl); (case hL => exact unhide LL); (case hx => rfl); (case hy => rfl); (case hi => rfl); (intro X LX; simp only [Act.put, List.setIfInBounds_toArray, List.set_cons_succ, List.set_cons_zero]; simp only [List.set_cons_succ, List.set_cons_zero] at LX; replace LL := hide LX; clear LX)))
    go_loopg [9] 0 (fun g s9 wr => s9 = .int .i64 0 ∧ Hid (Kp w wr [(w.heap.size, .D n), (w2.heap.size, .D f), (w3.heap.size, .D a0)]))
    case atStart => exact ⟨rfl, LL⟩
    case round =>
      obtain ⟨rfl, HL⟩ := hrel
      go_wp2
      go_ret
      exact ⟨rfl, (unhide HL).below⟩
theorem law_frozen (v : Value) (n : DD) (hn : FD n) (l : List DD) (hfd : ∀ d ∈ l, FD d) (w : World) (hT : Lib.Utf8Tabs 1 2 w) (hr : ReadsD w v l) (hlen : l.length ≤ 2932031007402) : Calls Tryd.prog 7 #[n.agg, v] w fun e w' => e = .returned (.bool true) ∧ Below w.heap.size w w' := by
  rcases hr with ⟨A, c, rfl, rfl⟩ | ⟨b, off, cap, rfl, hb, hr⟩
  · exact frozen_nil A c n hn w hT
  · exact frozen_rows b off cap n hn l hfd w hT hb hr hlen
end Go.Proofs.YtedgaaaloigpdaaDoor
