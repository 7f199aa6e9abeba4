import Derived.Test.YtedgaaaloigpdaaDoorEn
import Derived.Test.YtedgaaaloigpdaaDoorEo
import Derived.Test.YtedgaaaloigpdaaDoorEu
import Derived.Test.YtedgaaaloigpdaaDoorEg
import Derived.Deep.LoopGhost
namespace Go.Proofs.YtedgaaaloigpdaaDoor
open Go Go.Proofs Go.RowKit FM
set_option linter.unusedSimpArgs false
set_option linter.unusedVariables false
/-- The moments of a property: where it stands, a row; where it doesn't, itself alone. -/
def RowN (n : DD) (all : List DD) : Prop := (stV n = true ∧ Row all) ∨ (stV n = false ∧ all = [n])
theorem rown_one (n : DD) : RowN n [n] := by
  cases h : stV n
  · exact Or.inr ⟨h, rfl⟩
  · exact Or.inl ⟨h, row_one h⟩
theorem rown_snoc {n : DD} {all : List DD} (h : RowN n all) (x : Bool) {d a : DD} (ha : all.getLast? = some a) (he : appE a d = 0) : RowN n (all ++ [appD x a d]) := by
  rcases h with ⟨h1, h2⟩ | ⟨h1, rfl⟩
  · exact Or.inl ⟨h1, row_snoc h2 x d a ha he⟩
  · obtain rfl : n = a := by simpa using ha
    rw [(app_E he).2] at h1
    cases h1
/-- What the first loop holds of the moments. -/
def AllK (n : DD) (all : List DD) (j : Nat) : Prop := RowN n all ∧ (∀ d ∈ all, FD d) ∧ 0 < all.length ∧ all.length ≤ j + 1
theorem allk_one {n : DD} (h : FD n) : AllK n [n] 0 := ⟨rown_one n, by simpa using h, by simp, by simp⟩
theorem allk_next {n : DD} {all : List DD} {j : Nat} (h : AllK n all j) : AllK n all (j + 1) := ⟨h.1, h.2.1, h.2.2.1, by have := h.2.2.2; omega⟩
theorem allk_snoc {n : DD} {all : List DD} {j : Nat} (h : AllK n all j) (x : Bool) {d a : DD} (ha : all.getLast? = some a) (he : appE a d = 0) (hf : FD (appD x a d)) : AllK n (all ++ [appD x a d]) (j + 1) := by
  refine ⟨rown_snoc h.1 x ha he, ?_, by simp, ?_⟩
  · intro u hu
    rcases List.mem_append.1 hu with hu | hu
    · exact h.2.1 u hu
    · obtain rfl : u = appD x a d := by simpa using hu
      exact hf
  · have := h.2.2.2
    simp
    omega
theorem last_get {all : List DD} {m : Nat} (h : all.length = m + 1) : all.getLast? = some (all[m]'(by omega)) := by
  have e : all.length - 1 = m := by omega
  rw [List.getLast?_eq_getElem?]
  simp only [e]
  exact List.getElem?_eq_getElem _
theorem rows_get {X w w0 : World} {g m : Nat} {all : List DD} {ob : Option Obj} {L : List (Nat × PB)} (hr : RowsD w g 0 all) (ho : w.heap[g]? = ob) (hm : m < all.length) (h : Sk w0 L g ob X) : X.rangeAt g (0 + m * 18) (all[m]).cs :=
  hr.keep (h.2.2.trans ho.symm) m hm

theorem own_far {w : World} {g k c : Nat} {n : DD} (hb : w.heap.size + 1 ≤ g) : ∀ g', (Value.slice (some ⟨g, 0, none⟩) k c).ownBlock = some g' → w.heap.size ≤ g' ∧ ∀ q ∈ [(w.heap.size, PB.D n)], q.1 ≠ g' := by
  intro g' h
  have e : g = g' := by simpa [Value.ownBlock] using h
  subst e
  refine ⟨by omega, fun q hq => ?_⟩
  obtain rfl : q = (w.heap.size, PB.D n) := by simpa using hq
  show w.heap.size ≠ g
  omega
set_option maxHeartbeats 20000000 in
set_option maxRecDepth 100000 in
theorem keeps_long (b off cap : Nat) (x : Bool) (n : DD) (hn : FD n) (l : List DD) (hfd : ∀ d ∈ l, FD d) (w : World) (hT : Lib.Utf8Tabs 1 2 w) (hb : b < w.heap.size) (hr : RowsD w b off l) (hlong : 60 < l.length) : Calls Tryd.prog 6 #[.bool x, n.agg, .slice (some ⟨b, off, none⟩) l.length cap] w fun e w' => e = .returned (.bool true) ∧ Below w.heap.size w w' := by
  have HAw := hide awake_any
  have HT := hide hT
  clear hT
  clear hfd hr
  have LL := hide (Kp.of1 (Lie.new1 w (.D n)))
  have hlz : (60 : Int) < l.length := by omega
  have hq0 : n.agg = .agg #[.int .i64 n.v.k, .bool n.v.b, .float .f64 n.v.x, .string n.v.s, .int .i64 n.v.i, .int .i64 n.g.k, .bool n.g.b, .float .f64 n.g.x, .string n.g.s, .int .i64 n.g.i, .int .i64 n.s.k, .bool n.s.b, .float .f64 n.s.x, .string n.s.s, .int .i64 n.s.i, .int .i64 n.w, .int .i64 n.e, .int .i64 n.c] := rfl
  rw [hq0]
  clear hq0
  go_enter Tryd.func6, Tryd.ntmps6
  go_wp2_with (first | go_skip | ((with_reducible apply load27); (case ho => rfl); (case hw => rfl); (case hx => rfl); (case hc => first | exact (unhide LL).get 0 rfl | exact (unhide LL).get 1 rfl); simp only [Act.put, List.setIfInBounds_toArray, List.set_cons_succ, List.set_cons_zero]))
  refine (unhide HAw _ (tabs_below (unhide HT) (unhide LL).below)).mono ?_
  rintro _ w1 ⟨rfl, hb⟩
  replace LL := hide ((unhide LL).on hb)
  clear hb
  go_wp2_with (first | go_skip | ((with_reducible apply load27); (case ho => rfl); (case hw => rfl); (case hx => rfl); (case hc => first | exact (unhide LL).get 0 rfl | exact (unhide LL).get 1 rfl); simp only [Act.put, List.setIfInBounds_toArray, List.set_cons_succ, List.set_cons_zero]))
  go_ret
  exact ⟨rfl, (unhide LL).below⟩
set_option maxHeartbeats 20000000 in
set_option maxRecDepth 100000 in
theorem keeps_rows (b off cap : Nat) (x : Bool) (n : DD) (hn : FD n) (l : List DD) (hfd : ∀ d ∈ l, FD d) (w : World) (hT : Lib.Utf8Tabs 1 2 w) (hb : b < w.heap.size) (hr : RowsD w b off l) (hlen : l.length ≤ 60) : Calls Tryd.prog 6 #[.bool x, n.agg, .slice (some ⟨b, off, none⟩) l.length cap] w fun e w' => e = .returned (.bool true) ∧ Below w.heap.size w w' := by
  have HAw := hide awake_any
  have HFN := hide hn
  have HWn := hide (fun w hT => whole_any n hn w hT)
  have HKn := hide (fun w hT => keeps_any n n hn hn w hT)
  have HT := hide hT
  clear hT
  have HFD := hide hfd
  have HRD := hide hr
  clear hfd hr hn
  have hlz : ¬ (60 : Int) < l.length := by omega
  have LL := hide (Kp.of1 (Lie.new1 w (.D n)))
  have hq0 : n.agg = .agg #[.int .i64 n.v.k, .bool n.v.b, .float .f64 n.v.x, .string n.v.s, .int .i64 n.v.i, .int .i64 n.g.k, .bool n.g.b, .float .f64 n.g.x, .string n.g.s, .int .i64 n.g.i, .int .i64 n.s.k, .bool n.s.b, .float .f64 n.s.x, .string n.s.s, .int .i64 n.s.i, .int .i64 n.w, .int .i64 n.e, .int .i64 n.c] := rfl
  rw [hq0]
  clear hq0
  go_enter Tryd.func6, Tryd.ntmps6
  go_wp2_with (first | go_skip | ((with_reducible apply load27); (case ho => rfl); (case hw => rfl); (case hx => rfl); (case hc => first | exact (unhide LL).get 0 rfl | exact (unhide LL).get 1 rfl); simp only [Act.put, List.setIfInBounds_toArray, List.set_cons_succ, List.set_cons_zero]))
  refine (unhide HAw _ (tabs_below (unhide HT) (unhide LL).below)).mono ?_
  rintro _ w1 ⟨rfl, hb⟩
  replace LL := hide ((unhide LL).on hb)
  clear hb
  go_wp2_with (first | go_skip | ((with_reducible apply load27); (case ho => rfl); (case hw => rfl); (case hx => rfl); (case hc => first | exact (unhide LL).get 0 rfl | exact (unhide LL).get 1 rfl); simp only [Act.put, List.setIfInBounds_toArray, List.set_cons_succ, List.set_cons_zero]) | ((with_reducible apply kbuild); (case ho => rfl); (case hw => rfl); (case hL => exact unhide LL); (case hx => rfl); (intro X h1 h2 h3 LX; simp only [Act.put, List.setIfInBounds_toArray, List.set_cons_succ, List.set_cons_zero]; have HO := hide (own_new (base := w.heap.size + 1) h1 ((unhide LL).all _ (List.mem_singleton.2 rfl)).2.1); replace LL := hide (Kp.left (l := [_]) (m := [_]) LX); clear h1 h2 h3 LX)))
  go_loopg [7, 8] l.length (fun gm s7 s8 wr => ∃ (j : Nat) (all : List DD), s8 = .int .i64 j ∧ j ≤ l.length ∧ l.length - j ≤ gm ∧ Hid (AllK n all j) ∧ Hid (OwnD wr (w.heap.size + 1) s7 all) ∧ Hid (Kp w wr [(w.heap.size, .D n)]))
  case atStart => exact ⟨0, [n], rfl, by omega, by omega, hide (allk_one (unhide HFN)), HO, LL⟩
  case round =>
    clear HO LL
    obtain ⟨j, all, rfl, hj, hgm, HA, HO, LL⟩ := hrel
    obtain ⟨m, hm⟩ : ∃ m, all.length = m + 1 := ⟨all.length - 1, by have := (unhide HA).2.2.1; omega⟩
    obtain ⟨g, c, hs7, hbg0, hgw, hrw⟩ := (unhide HO).form (unhide HA).2.2.1
    rw [hm] at hs7
    subst hs7
    have HRW := hide hrw
    clear hrw
    have hm60 : m < 1000 := by have := (unhide HA).2.2.2; omega
    obtain ⟨ob, hob⟩ : ∃ ob, wr.heap[g]? = ob := ⟨_, rfl⟩
    by_cases hlt : j < l.length
    · have hjz : (j : Int) < l.length := by omega
      obtain ⟨d, hdj⟩ : ∃ d, d = l[j] := ⟨_, rfl⟩
      have hfd : FD d := by rw [hdj]; exact unhide HFD _ (List.getElem_mem hlt)
      have hml : m < all.length := by omega
      obtain ⟨a, haj⟩ : ∃ a, a = all[m] := ⟨_, rfl⟩
      have hfa : FD a := by rw [haj]; exact (unhide HA).2.1 _ (List.getElem_mem hml)
      have hlast : all.getLast? = some a := by rw [haj]; exact last_get hm
      have HR : Hid (∀ X, Sk w [(w.heap.size, .D n)] g ob X → X.rangeAt b (off + j * 18) d.cs) := hide (fun X hX => by
        rw [hdj]
        exact (unhide HRD).keep (hX.1.below.block b hb) j hlt)
      have HRA : Hid (∀ X, Sk w [(w.heap.size, .D n)] g ob X → X.rangeAt g (0 + m * 18) a.cs) := hide (fun X hX => by
        rw [haj]
        exact (unhide HRW).keep (hX.2.2.trans hob.symm) m hml)
      have HX := hide (fun w hT => apply_any x a d hfa hfd w hT)
      by_cases hE : appE a d = 0
      · have HN := hide (allk_snoc (unhide HA) x hlast hE (fd_app x hfa hfd))
        rw [hE] at HX
        clear hE hfd hdj hfa haj hlast
        generalize appD x a d = A2 at *
        generalize appB x a d = B2 at *
        go_wp2_with fail
        refine wp_region_held_drew (P := Tryd.prog) (S := Sk w [(w.heap.size, .D n)] g ob) (by kernel_rfl) (⟨Kp.drew (unhide LL), hgw, hob⟩) (fun hS0 => ?_)
        refine gpure 0 (some 30) (.bool x) rfl (by kernel_rfl) (by kernel_rfl) (by kernel_rfl) (fun _ _ _ h => h) (by kernel_rfl) (by kernel_rfl) (fun _ => by kernel_rfl) hS0 ?_
        simp only [Act.put, List.setIfInBounds_toArray, List.set_cons_succ, List.set_cons_zero]
        refine gpure 1 (some 31) (.slice (some ⟨g, 0, none⟩) (m + 1) c) rfl (by kernel_rfl) (by kernel_rfl) (by kernel_rfl) (fun _ _ _ h => h) (by kernel_rfl) (by kernel_rfl) (fun _ => by kernel_rfl) hS0 ?_
        simp only [Act.put, List.setIfInBounds_toArray, List.set_cons_succ, List.set_cons_zero]
        refine gpure 2 (some 32) (.slice (some ⟨g, 0, none⟩) (m + 1) c) rfl (by kernel_rfl) (by kernel_rfl) (by kernel_rfl) (fun _ _ _ h => h) (by kernel_rfl) (by kernel_rfl) (fun _ => by kernel_rfl) hS0 ?_
        simp only [Act.put, List.setIfInBounds_toArray, List.set_cons_succ, List.set_cons_zero]
        refine gpure 3 (some 33) (.int .i64 ((m + 1 : Nat) : Int)) rfl (by kernel_rfl) (by kernel_rfl) (by kernel_rfl) (fun _ _ _ h => h) (by kernel_rfl) (by kernel_rfl) (fun _ => by kernel_rfl) hS0 ?_
        simp only [Act.put, List.setIfInBounds_toArray, List.set_cons_succ, List.set_cons_zero]
        refine gbin 4 (some 34) (b := .sub) (t := 3) (t2 := 3) (vx := .int .i64 ((m + 1 : Nat) : Int)) (vy := .int .i64 1) (x := .tmp 33) (y := .const (.int .i64 1)) (.int .i64 (m : Int)) rfl (by kernel_rfl) (by kernel_rfl) (by kernel_rfl) (fun _ _ _ h => h) (by kernel_rfl) (by kernel_rfl) (by kernel_rfl) (by kernel_rfl) (by kernel_rfl) (sub1 m hm60) (fun _ => by kernel_rfl) hS0 ?_
        simp only [Act.put, List.setIfInBounds_toArray, List.set_cons_succ, List.set_cons_zero]
        refine gindex 5 (some 35) (x := .tmp 31) (ix := .tmp 34) (b := g) (off := 0) (n := m + 1) (cap := c) m rfl (by kernel_rfl) (by kernel_rfl) (by kernel_rfl) (fun _ _ _ h => h) (by kernel_rfl) (by kernel_rfl) (by kernel_rfl) (by kernel_rfl) (by kernel_rfl) (Nat.lt_succ_self m) hS0 ?_
        simp only [Act.put, List.setIfInBounds_toArray, List.set_cons_succ, List.set_cons_zero]
        refine gload 6 (some 36) (x := .tmp 35) (b := g) (p := 0 + m * 18) (d := a) rfl (by kernel_rfl) (by kernel_rfl) (by kernel_rfl) (fun _ _ _ h => h) (by kernel_rfl) (by kernel_rfl) (by kernel_rfl) (by kernel_rfl) (unhide HRA) hS0 ?_
        simp only [Act.put, List.setIfInBounds_toArray, List.set_cons_succ, List.set_cons_zero]
        refine gpure 7 (some 37) (.slice (some ⟨b, off, none⟩) l.length cap) rfl (by kernel_rfl) (by kernel_rfl) (by kernel_rfl) (fun _ _ _ h => h) (by kernel_rfl) (by kernel_rfl) (fun _ => by kernel_rfl) hS0 ?_
        simp only [Act.put, List.setIfInBounds_toArray, List.set_cons_succ, List.set_cons_zero]
        refine gpure 8 (some 38) (.int .i64 (j : Int)) rfl (by kernel_rfl) (by kernel_rfl) (by kernel_rfl) (fun _ _ _ h => h) (by kernel_rfl) (by kernel_rfl) (fun _ => by kernel_rfl) hS0 ?_
        simp only [Act.put, List.setIfInBounds_toArray, List.set_cons_succ, List.set_cons_zero]
        refine gindex 9 (some 39) (x := .tmp 37) (ix := .tmp 38) (b := b) (off := off) (n := l.length) (cap := cap) j rfl (by kernel_rfl) (by kernel_rfl) (by kernel_rfl) (fun _ _ _ h => h) (by kernel_rfl) (by kernel_rfl) (by kernel_rfl) (by kernel_rfl) (by kernel_rfl) hlt hS0 ?_
        simp only [Act.put, List.setIfInBounds_toArray, List.set_cons_succ, List.set_cons_zero]
        refine gload 10 (some 40) (x := .tmp 39) (b := b) (p := off + j * 18) (d := d) rfl (by kernel_rfl) (by kernel_rfl) (by kernel_rfl) (fun _ _ _ h => h) (by kernel_rfl) (by kernel_rfl) (by kernel_rfl) (by kernel_rfl) (unhide HR) hS0 ?_
        simp only [Act.put, List.setIfInBounds_toArray, List.set_cons_succ, List.set_cons_zero]
        refine wpAnyH_ready (rs := [11, 16]) (by kernel_rfl) (by simp) (gcall 11 (some 41) rfl (by kernel_rfl) (by kernel_rfl) (by kernel_rfl) (unhide HX _ (tabs_below (unhide HT) hS0.1.below)) (fun X hX => hS0.on hX) ?_ (galloc 16 (some 9) rfl (by kernel_rfl) (by kernel_rfl) (by kernel_rfl) (hS0.on ((Below.refl _ _).alloc (Nat.le_refl _) _)) ?_ AllReadyH.nil))
        · intro X hX
          have hS1 := hS0.on hX
          clear hX hS0
          simp only [Act.put, List.setIfInBounds_toArray, List.set_cons_succ, List.set_cons_zero]
          refine gpure 12 (some 29) (.tuple #[(A2).agg, .bool B2, .int .i64 0]) rfl (by kernel_rfl) (by kernel_rfl) (by kernel_rfl) (fun _ _ _ h => h) (by kernel_rfl) (by kernel_rfl) (fun _ => by kernel_rfl) hS1 ?_
          simp only [Act.put, List.setIfInBounds_toArray, List.set_cons_succ, List.set_cons_zero]
          refine gpure 13 (some 42) ((A2).agg) rfl (by kernel_rfl) (by kernel_rfl) (by kernel_rfl) (fun _ _ _ h => h) (by kernel_rfl) (by kernel_rfl) (fun _ => by kernel_rfl) hS1 ?_
          simp only [Act.put, List.setIfInBounds_toArray, List.set_cons_succ, List.set_cons_zero]
          refine gpure 14 (some 43) (.bool B2) rfl (by kernel_rfl) (by kernel_rfl) (by kernel_rfl) (fun _ _ _ h => h) (by kernel_rfl) (by kernel_rfl) (fun _ => by kernel_rfl) hS1 ?_
          simp only [Act.put, List.setIfInBounds_toArray, List.set_cons_succ, List.set_cons_zero]
          refine gpure 15 (some 44) (.int .i64 0) rfl (by kernel_rfl) (by kernel_rfl) (by kernel_rfl) (fun _ _ _ h => h) (by kernel_rfl) (by kernel_rfl) (fun _ => by kernel_rfl) hS1 ?_
          simp only [Act.put, List.setIfInBounds_toArray, List.set_cons_succ, List.set_cons_zero]
          refine wpAnyH_ready (rs := [16]) (by kernel_rfl) (by simp) (galloc 16 (some 9) rfl (by kernel_rfl) (by kernel_rfl) (by kernel_rfl) (hS1.on ((Below.refl _ _).alloc (Nat.le_refl _) _)) ?_ AllReadyH.nil)
          intro Y B hB hY
          have kk : Kp w Y [(w.heap.size, .D n), (B, .D zeroD)] := by rw [hY, hB]; exact hS1.1.new (.D zeroD)
          have kg : g < Y.heap.size ∧ Y.heap[g]? = ob ∧ g ≠ B := by
            have h3 := hS1.on ((Below.refl _ _).alloc (Nat.le_refl _) (PB.D zeroD).obj)
            rw [← hY] at h3
            exact ⟨h3.2.1, h3.2.2, by rw [hB]; exact Nat.ne_of_lt hS1.2.1⟩
          clear hB hY hS1
          simp only [Act.put, List.setIfInBounds_toArray, List.set_cons_succ, List.set_cons_zero]
          have hon : ∀ Z, Z = World.setCells Y B 0 (A2).cs → (Sk w [(w.heap.size, .D n)] g ob) Z ∧ Kp w Z [(w.heap.size, .D n), (B, .D A2)] := by
            intro Z hZ
            have k2 : Kp w Z [(w.heap.size, .D n), (B, .D A2)] := by rw [hZ]; exact kk.put 1 rfl
            exact ⟨⟨Kp.left (l := [_]) (m := [_]) k2, by rw [hZ, size_setCells]; exact kg.1, by rw [hZ, heap_setCells _ _ _ _ _ kg.2.2]; exact kg.2.1⟩, k2⟩
          refine wpAnyH_ready (rs := [17]) (by kernel_rfl) (by simp) (gstore 17 (x := .tmp 9) (y := .tmp 42) (b := B) (d := zeroD) (u := A2) rfl (by kernel_rfl) (by kernel_rfl) (by kernel_rfl) (by kernel_rfl) (by kernel_rfl) (kk.get 1 rfl) (hon _ rfl).1 ?_ AllReadyH.nil)
          intro Z hZ
          obtain ⟨hSz, LX⟩ := hon Z hZ
          have hbg := kg.2.2
          clear hZ kk hon kg
          simp only [Act.put, List.setIfInBounds_toArray, List.set_cons_succ, List.set_cons_zero]
          refine gpure 18 (some 10) (.bool B2) rfl (by kernel_rfl) (by kernel_rfl) (by kernel_rfl) (fun _ _ _ h => h) (by kernel_rfl) (by kernel_rfl) (fun _ => by kernel_rfl) hSz ?_
          simp only [Act.put, List.setIfInBounds_toArray, List.set_cons_succ, List.set_cons_zero]
          refine gpure 19 (some 11) (.int .i64 0) rfl (by kernel_rfl) (by kernel_rfl) (by kernel_rfl) (fun _ _ _ h => h) (by kernel_rfl) (by kernel_rfl) (fun _ => by kernel_rfl) hSz ?_
          simp only [Act.put, List.setIfInBounds_toArray, List.set_cons_succ, List.set_cons_zero]
          refine wpAnyH_done (by kernel_rfl) ?_ _
          try simp only [Act.put, List.setIfInBounds_toArray, List.set_cons_succ, List.set_cons_zero]
          clear LL
          have LL := hide LX
          have HG := hide (And.intro hSz.2.1 (And.intro hSz.2.2 hbg))
          clear LX hSz hbg
          go_wp2_with (first | go_skip | ((with_reducible apply load27); (case ho => rfl); (case hw => rfl); (case hx => rfl); (case hc => first | exact (unhide LL).get 0 rfl | exact (unhide LL).get 1 rfl); simp only [Act.put, List.setIfInBounds_toArray, List.set_cons_succ, List.set_cons_zero]) | ((with_reducible apply kbuild); (case ho => rfl); (case hw => rfl); (case hL => exact unhide LL); (case hx => rfl); (intro X h1 h2 h3 LX; simp only [Act.put, List.setIfInBounds_toArray, List.set_cons_succ, List.set_cons_zero]; simp only [List.cons_append, List.nil_append] at LX; have HO2 := hide ((unhide HO).keep ((h3.block g (unhide HG).1).trans ((unhide HG).2.1.trans hob.symm))); have hsz := hide (Nat.le_trans (unhide HG).1 (Nat.le_of_lt (Nat.lt_of_lt_of_le (Nat.lt_succ_self _) (Nat.le_of_eq h2.symm)))); replace LL := hide LX; clear h1 h2 h3 LX)) | ((with_reducible apply append_d); (case hgd => rfl); (case ho => rfl); (case hs => rfl); (case hx => rfl); (case hown => exact unhide HO2); (case hu => exact (unhide LL).get 2 rfl); (case hn => omega); (case hbase => exact Nat.le_trans hbg0 (Nat.le_trans (Nat.le_succ g) (unhide hsz))); (intro v2 X2 h1 h2; simp only [Act.put, List.setIfInBounds_toArray, List.set_cons_succ, List.set_cons_zero]; have HO3 := hide h1; replace LL := hide (Kp.grown (Kp.left (l := [_]) (m := [_, _]) (unhide LL)) h2 (own_far hbg0)); clear h1 h2)))
          go_roundg (l.length - (j + 1))
          case measure => omega
          case rel => exact ⟨j + 1, all ++ [A2], by go_num, by omega, Nat.le_refl _, HN, HO3, LL⟩
        · intro Y B hB hY
          have kk : Kp w Y [(w.heap.size, .D n), (B, .D zeroD)] := by rw [hY, hB]; exact hS0.1.new (.D zeroD)
          have kg : g < Y.heap.size ∧ Y.heap[g]? = ob ∧ g ≠ B := by
            have h3 := hS0.on ((Below.refl _ _).alloc (Nat.le_refl _) (PB.D zeroD).obj)
            rw [← hY] at h3
            exact ⟨h3.2.1, h3.2.2, by rw [hB]; exact Nat.ne_of_lt hS0.2.1⟩
          clear hB hY hS0
          simp only [Act.put, List.setIfInBounds_toArray, List.set_cons_succ, List.set_cons_zero]
          refine wpAnyH_ready (rs := [11]) (by kernel_rfl) (by simp) (gcall 11 (some 41) rfl (by kernel_rfl) (by kernel_rfl) (by kernel_rfl) (unhide HX _ (tabs_below (unhide HT) kk.below)) (fun X hX => ⟨Kp.left (l := [_]) (m := [_]) (kk.on hX), Nat.lt_of_lt_of_le kg.1 hX.size, (hX.block g kg.1).trans kg.2.1⟩) ?_ AllReadyH.nil)
          intro X hX
          replace kk := kk.on hX
          replace kg : g < X.heap.size ∧ X.heap[g]? = ob ∧ g ≠ B := ⟨Nat.lt_of_lt_of_le kg.1 hX.size, (hX.block g kg.1).trans kg.2.1, kg.2.2⟩
          have hS1 : (Sk w [(w.heap.size, .D n)] g ob) X := ⟨Kp.left (l := [_]) (m := [_]) kk, kg.1, kg.2.1⟩
          clear hX
          simp only [Act.put, List.setIfInBounds_toArray, List.set_cons_succ, List.set_cons_zero]
          refine gpure 12 (some 29) (.tuple #[(A2).agg, .bool B2, .int .i64 0]) rfl (by kernel_rfl) (by kernel_rfl) (by kernel_rfl) (fun _ _ _ h => h) (by kernel_rfl) (by kernel_rfl) (fun _ => by kernel_rfl) hS1 ?_
          simp only [Act.put, List.setIfInBounds_toArray, List.set_cons_succ, List.set_cons_zero]
          refine gpure 13 (some 42) ((A2).agg) rfl (by kernel_rfl) (by kernel_rfl) (by kernel_rfl) (fun _ _ _ h => h) (by kernel_rfl) (by kernel_rfl) (fun _ => by kernel_rfl) hS1 ?_
          simp only [Act.put, List.setIfInBounds_toArray, List.set_cons_succ, List.set_cons_zero]
          refine gpure 14 (some 43) (.bool B2) rfl (by kernel_rfl) (by kernel_rfl) (by kernel_rfl) (fun _ _ _ h => h) (by kernel_rfl) (by kernel_rfl) (fun _ => by kernel_rfl) hS1 ?_
          simp only [Act.put, List.setIfInBounds_toArray, List.set_cons_succ, List.set_cons_zero]
          refine gpure 15 (some 44) (.int .i64 0) rfl (by kernel_rfl) (by kernel_rfl) (by kernel_rfl) (fun _ _ _ h => h) (by kernel_rfl) (by kernel_rfl) (fun _ => by kernel_rfl) hS1 ?_
          simp only [Act.put, List.setIfInBounds_toArray, List.set_cons_succ, List.set_cons_zero]
          clear hS1
          have hon : ∀ Z, Z = World.setCells X B 0 (A2).cs → (Sk w [(w.heap.size, .D n)] g ob) Z ∧ Kp w Z [(w.heap.size, .D n), (B, .D A2)] := by
            intro Z hZ
            have k2 : Kp w Z [(w.heap.size, .D n), (B, .D A2)] := by rw [hZ]; exact kk.put 1 rfl
            exact ⟨⟨Kp.left (l := [_]) (m := [_]) k2, by rw [hZ, size_setCells]; exact kg.1, by rw [hZ, heap_setCells _ _ _ _ _ kg.2.2]; exact kg.2.1⟩, k2⟩
          refine wpAnyH_ready (rs := [17]) (by kernel_rfl) (by simp) (gstore 17 (x := .tmp 9) (y := .tmp 42) (b := B) (d := zeroD) (u := A2) rfl (by kernel_rfl) (by kernel_rfl) (by kernel_rfl) (by kernel_rfl) (by kernel_rfl) (kk.get 1 rfl) (hon _ rfl).1 ?_ AllReadyH.nil)
          intro Z hZ
          obtain ⟨hSz, LX⟩ := hon Z hZ
          have hbg := kg.2.2
          clear hZ kk hon kg
          simp only [Act.put, List.setIfInBounds_toArray, List.set_cons_succ, List.set_cons_zero]
          refine gpure 18 (some 10) (.bool B2) rfl (by kernel_rfl) (by kernel_rfl) (by kernel_rfl) (fun _ _ _ h => h) (by kernel_rfl) (by kernel_rfl) (fun _ => by kernel_rfl) hSz ?_
          simp only [Act.put, List.setIfInBounds_toArray, List.set_cons_succ, List.set_cons_zero]
          refine gpure 19 (some 11) (.int .i64 0) rfl (by kernel_rfl) (by kernel_rfl) (by kernel_rfl) (fun _ _ _ h => h) (by kernel_rfl) (by kernel_rfl) (fun _ => by kernel_rfl) hSz ?_
          simp only [Act.put, List.setIfInBounds_toArray, List.set_cons_succ, List.set_cons_zero]
          refine wpAnyH_done (by kernel_rfl) ?_ _
          try simp only [Act.put, List.setIfInBounds_toArray, List.set_cons_succ, List.set_cons_zero]
          clear LL
          have LL := hide LX
          have HG := hide (And.intro hSz.2.1 (And.intro hSz.2.2 hbg))
          clear LX hSz hbg
          go_wp2_with (first | go_skip | ((with_reducible apply load27); (case ho => rfl); (case hw => rfl); (case hx => rfl); (case hc => first | exact (unhide LL).get 0 rfl | exact (unhide LL).get 1 rfl); simp only [Act.put, List.setIfInBounds_toArray, List.set_cons_succ, List.set_cons_zero]) | ((with_reducible apply kbuild); (case ho => rfl); (case hw => rfl); (case hL => exact unhide LL); (case hx => rfl); (intro X h1 h2 h3 LX; simp only [Act.put, List.setIfInBounds_toArray, List.set_cons_succ, List.set_cons_zero]; simp only [List.cons_append, List.nil_append] at LX; have HO2 := hide ((unhide HO).keep ((h3.block g (unhide HG).1).trans ((unhide HG).2.1.trans hob.symm))); have hsz := hide (Nat.le_trans (unhide HG).1 (Nat.le_of_lt (Nat.lt_of_lt_of_le (Nat.lt_succ_self _) (Nat.le_of_eq h2.symm)))); replace LL := hide LX; clear h1 h2 h3 LX)) | ((with_reducible apply append_d); (case hgd => rfl); (case ho => rfl); (case hs => rfl); (case hx => rfl); (case hown => exact unhide HO2); (case hu => exact (unhide LL).get 2 rfl); (case hn => omega); (case hbase => exact Nat.le_trans hbg0 (Nat.le_trans (Nat.le_succ g) (unhide hsz))); (intro v2 X2 h1 h2; simp only [Act.put, List.setIfInBounds_toArray, List.set_cons_succ, List.set_cons_zero]; have HO3 := hide h1; replace LL := hide (Kp.grown (Kp.left (l := [_]) (m := [_, _]) (unhide LL)) h2 (own_far hbg0)); clear h1 h2)))
          go_roundg (l.length - (j + 1))
          case measure => omega
          case rel => exact ⟨j + 1, all ++ [A2], by go_num, by omega, Nat.le_refl _, HN, HO3, LL⟩
      · obtain ⟨e1, e2, e3⟩ := app_err (x := x) hE
        rw [e1, e2, e3] at HX
        clear e1 e2 e3 hE hfd hdj hfa haj hlast
        go_wp2_with fail
        refine wp_region_held_drew (P := Tryd.prog) (S := Sk w [(w.heap.size, .D n)] g ob) (by kernel_rfl) (⟨Kp.drew (unhide LL), hgw, hob⟩) (fun hS0 => ?_)
        refine gpure 0 (some 30) (.bool x) rfl (by kernel_rfl) (by kernel_rfl) (by kernel_rfl) (fun _ _ _ h => h) (by kernel_rfl) (by kernel_rfl) (fun _ => by kernel_rfl) hS0 ?_
        simp only [Act.put, List.setIfInBounds_toArray, List.set_cons_succ, List.set_cons_zero]
        refine gpure 1 (some 31) (.slice (some ⟨g, 0, none⟩) (m + 1) c) rfl (by kernel_rfl) (by kernel_rfl) (by kernel_rfl) (fun _ _ _ h => h) (by kernel_rfl) (by kernel_rfl) (fun _ => by kernel_rfl) hS0 ?_
        simp only [Act.put, List.setIfInBounds_toArray, List.set_cons_succ, List.set_cons_zero]
        refine gpure 2 (some 32) (.slice (some ⟨g, 0, none⟩) (m + 1) c) rfl (by kernel_rfl) (by kernel_rfl) (by kernel_rfl) (fun _ _ _ h => h) (by kernel_rfl) (by kernel_rfl) (fun _ => by kernel_rfl) hS0 ?_
        simp only [Act.put, List.setIfInBounds_toArray, List.set_cons_succ, List.set_cons_zero]
        refine gpure 3 (some 33) (.int .i64 ((m + 1 : Nat) : Int)) rfl (by kernel_rfl) (by kernel_rfl) (by kernel_rfl) (fun _ _ _ h => h) (by kernel_rfl) (by kernel_rfl) (fun _ => by kernel_rfl) hS0 ?_
        simp only [Act.put, List.setIfInBounds_toArray, List.set_cons_succ, List.set_cons_zero]
        refine gbin 4 (some 34) (b := .sub) (t := 3) (t2 := 3) (vx := .int .i64 ((m + 1 : Nat) : Int)) (vy := .int .i64 1) (x := .tmp 33) (y := .const (.int .i64 1)) (.int .i64 (m : Int)) rfl (by kernel_rfl) (by kernel_rfl) (by kernel_rfl) (fun _ _ _ h => h) (by kernel_rfl) (by kernel_rfl) (by kernel_rfl) (by kernel_rfl) (by kernel_rfl) (sub1 m hm60) (fun _ => by kernel_rfl) hS0 ?_
        simp only [Act.put, List.setIfInBounds_toArray, List.set_cons_succ, List.set_cons_zero]
        refine gindex 5 (some 35) (x := .tmp 31) (ix := .tmp 34) (b := g) (off := 0) (n := m + 1) (cap := c) m rfl (by kernel_rfl) (by kernel_rfl) (by kernel_rfl) (fun _ _ _ h => h) (by kernel_rfl) (by kernel_rfl) (by kernel_rfl) (by kernel_rfl) (by kernel_rfl) (Nat.lt_succ_self m) hS0 ?_
        simp only [Act.put, List.setIfInBounds_toArray, List.set_cons_succ, List.set_cons_zero]
        refine gload 6 (some 36) (x := .tmp 35) (b := g) (p := 0 + m * 18) (d := a) rfl (by kernel_rfl) (by kernel_rfl) (by kernel_rfl) (fun _ _ _ h => h) (by kernel_rfl) (by kernel_rfl) (by kernel_rfl) (by kernel_rfl) (unhide HRA) hS0 ?_
        simp only [Act.put, List.setIfInBounds_toArray, List.set_cons_succ, List.set_cons_zero]
        refine gpure 7 (some 37) (.slice (some ⟨b, off, none⟩) l.length cap) rfl (by kernel_rfl) (by kernel_rfl) (by kernel_rfl) (fun _ _ _ h => h) (by kernel_rfl) (by kernel_rfl) (fun _ => by kernel_rfl) hS0 ?_
        simp only [Act.put, List.setIfInBounds_toArray, List.set_cons_succ, List.set_cons_zero]
        refine gpure 8 (some 38) (.int .i64 (j : Int)) rfl (by kernel_rfl) (by kernel_rfl) (by kernel_rfl) (fun _ _ _ h => h) (by kernel_rfl) (by kernel_rfl) (fun _ => by kernel_rfl) hS0 ?_
        simp only [Act.put, List.setIfInBounds_toArray, List.set_cons_succ, List.set_cons_zero]
        refine gindex 9 (some 39) (x := .tmp 37) (ix := .tmp 38) (b := b) (off := off) (n := l.length) (cap := cap) j rfl (by kernel_rfl) (by kernel_rfl) (by kernel_rfl) (fun _ _ _ h => h) (by kernel_rfl) (by kernel_rfl) (by kernel_rfl) (by kernel_rfl) (by kernel_rfl) hlt hS0 ?_
        simp only [Act.put, List.setIfInBounds_toArray, List.set_cons_succ, List.set_cons_zero]
        refine gload 10 (some 40) (x := .tmp 39) (b := b) (p := off + j * 18) (d := d) rfl (by kernel_rfl) (by kernel_rfl) (by kernel_rfl) (fun _ _ _ h => h) (by kernel_rfl) (by kernel_rfl) (by kernel_rfl) (by kernel_rfl) (unhide HR) hS0 ?_
        simp only [Act.put, List.setIfInBounds_toArray, List.set_cons_succ, List.set_cons_zero]
        refine wpAnyH_ready (rs := [11, 16]) (by kernel_rfl) (by simp) (gcall 11 (some 41) rfl (by kernel_rfl) (by kernel_rfl) (by kernel_rfl) (unhide HX _ (tabs_below (unhide HT) hS0.1.below)) (fun X hX => hS0.on hX) ?_ (galloc 16 (some 9) rfl (by kernel_rfl) (by kernel_rfl) (by kernel_rfl) (hS0.on ((Below.refl _ _).alloc (Nat.le_refl _) _)) ?_ AllReadyH.nil))
        · intro X hX
          have hS1 := hS0.on hX
          clear hX hS0
          simp only [Act.put, List.setIfInBounds_toArray, List.set_cons_succ, List.set_cons_zero]
          refine gpure 12 (some 29) (.tuple #[(zeroD).agg, .bool false, .int .i64 5]) rfl (by kernel_rfl) (by kernel_rfl) (by kernel_rfl) (fun _ _ _ h => h) (by kernel_rfl) (by kernel_rfl) (fun _ => by kernel_rfl) hS1 ?_
          simp only [Act.put, List.setIfInBounds_toArray, List.set_cons_succ, List.set_cons_zero]
          refine gpure 13 (some 42) ((zeroD).agg) rfl (by kernel_rfl) (by kernel_rfl) (by kernel_rfl) (fun _ _ _ h => h) (by kernel_rfl) (by kernel_rfl) (fun _ => by kernel_rfl) hS1 ?_
          simp only [Act.put, List.setIfInBounds_toArray, List.set_cons_succ, List.set_cons_zero]
          refine gpure 14 (some 43) (.bool false) rfl (by kernel_rfl) (by kernel_rfl) (by kernel_rfl) (fun _ _ _ h => h) (by kernel_rfl) (by kernel_rfl) (fun _ => by kernel_rfl) hS1 ?_
          simp only [Act.put, List.setIfInBounds_toArray, List.set_cons_succ, List.set_cons_zero]
          refine gpure 15 (some 44) (.int .i64 5) rfl (by kernel_rfl) (by kernel_rfl) (by kernel_rfl) (fun _ _ _ h => h) (by kernel_rfl) (by kernel_rfl) (fun _ => by kernel_rfl) hS1 ?_
          simp only [Act.put, List.setIfInBounds_toArray, List.set_cons_succ, List.set_cons_zero]
          refine wpAnyH_ready (rs := [16]) (by kernel_rfl) (by simp) (galloc 16 (some 9) rfl (by kernel_rfl) (by kernel_rfl) (by kernel_rfl) (hS1.on ((Below.refl _ _).alloc (Nat.le_refl _) _)) ?_ AllReadyH.nil)
          intro Y B hB hY
          have kk : Kp w Y [(w.heap.size, .D n), (B, .D zeroD)] := by rw [hY, hB]; exact hS1.1.new (.D zeroD)
          have kg : g < Y.heap.size ∧ Y.heap[g]? = ob ∧ g ≠ B := by
            have h3 := hS1.on ((Below.refl _ _).alloc (Nat.le_refl _) (PB.D zeroD).obj)
            rw [← hY] at h3
            exact ⟨h3.2.1, h3.2.2, by rw [hB]; exact Nat.ne_of_lt hS1.2.1⟩
          clear hB hY hS1
          simp only [Act.put, List.setIfInBounds_toArray, List.set_cons_succ, List.set_cons_zero]
          have hon : ∀ Z, Z = World.setCells Y B 0 (zeroD).cs → (Sk w [(w.heap.size, .D n)] g ob) Z ∧ Kp w Z [(w.heap.size, .D n), (B, .D zeroD)] := by
            intro Z hZ
            have k2 : Kp w Z [(w.heap.size, .D n), (B, .D zeroD)] := by rw [hZ]; exact kk.put 1 rfl
            exact ⟨⟨Kp.left (l := [_]) (m := [_]) k2, by rw [hZ, size_setCells]; exact kg.1, by rw [hZ, heap_setCells _ _ _ _ _ kg.2.2]; exact kg.2.1⟩, k2⟩
          refine wpAnyH_ready (rs := [17]) (by kernel_rfl) (by simp) (gstore 17 (x := .tmp 9) (y := .tmp 42) (b := B) (d := zeroD) (u := zeroD) rfl (by kernel_rfl) (by kernel_rfl) (by kernel_rfl) (by kernel_rfl) (by kernel_rfl) (kk.get 1 rfl) (hon _ rfl).1 ?_ AllReadyH.nil)
          intro Z hZ
          obtain ⟨hSz, LX⟩ := hon Z hZ
          have hbg := kg.2.2
          clear hZ kk hon kg
          simp only [Act.put, List.setIfInBounds_toArray, List.set_cons_succ, List.set_cons_zero]
          refine gpure 18 (some 10) (.bool false) rfl (by kernel_rfl) (by kernel_rfl) (by kernel_rfl) (fun _ _ _ h => h) (by kernel_rfl) (by kernel_rfl) (fun _ => by kernel_rfl) hSz ?_
          simp only [Act.put, List.setIfInBounds_toArray, List.set_cons_succ, List.set_cons_zero]
          refine gpure 19 (some 11) (.int .i64 5) rfl (by kernel_rfl) (by kernel_rfl) (by kernel_rfl) (fun _ _ _ h => h) (by kernel_rfl) (by kernel_rfl) (fun _ => by kernel_rfl) hSz ?_
          simp only [Act.put, List.setIfInBounds_toArray, List.set_cons_succ, List.set_cons_zero]
          refine wpAnyH_done (by kernel_rfl) ?_ _
          try simp only [Act.put, List.setIfInBounds_toArray, List.set_cons_succ, List.set_cons_zero]
          clear LL
          have LL := hide LX
          have HG := hide (And.intro hSz.2.1 (And.intro hSz.2.2 hbg))
          clear LX hSz hbg
          go_wp2_with (first | go_skip | ((with_reducible apply load27); (case ho => rfl); (case hw => rfl); (case hx => rfl); (case hc => first | exact (unhide LL).get 0 rfl | exact (unhide LL).get 1 rfl); simp only [Act.put, List.setIfInBounds_toArray, List.set_cons_succ, List.set_cons_zero]))
          go_roundg (l.length - (j + 1))
          case measure => omega
          case rel => exact ⟨j + 1, all, by go_num, by omega, Nat.le_refl _, hide (allk_next (unhide HA)), hide ((unhide HO).keep ((unhide HG).2.1.trans hob.symm)), hide (Kp.left (l := [_]) (m := [_]) (unhide LL))⟩
        · intro Y B hB hY
          have kk : Kp w Y [(w.heap.size, .D n), (B, .D zeroD)] := by rw [hY, hB]; exact hS0.1.new (.D zeroD)
          have kg : g < Y.heap.size ∧ Y.heap[g]? = ob ∧ g ≠ B := by
            have h3 := hS0.on ((Below.refl _ _).alloc (Nat.le_refl _) (PB.D zeroD).obj)
            rw [← hY] at h3
            exact ⟨h3.2.1, h3.2.2, by rw [hB]; exact Nat.ne_of_lt hS0.2.1⟩
          clear hB hY hS0
          simp only [Act.put, List.setIfInBounds_toArray, List.set_cons_succ, List.set_cons_zero]
          refine wpAnyH_ready (rs := [11]) (by kernel_rfl) (by simp) (gcall 11 (some 41) rfl (by kernel_rfl) (by kernel_rfl) (by kernel_rfl) (unhide HX _ (tabs_below (unhide HT) kk.below)) (fun X hX => ⟨Kp.left (l := [_]) (m := [_]) (kk.on hX), Nat.lt_of_lt_of_le kg.1 hX.size, (hX.block g kg.1).trans kg.2.1⟩) ?_ AllReadyH.nil)
          intro X hX
          replace kk := kk.on hX
          replace kg : g < X.heap.size ∧ X.heap[g]? = ob ∧ g ≠ B := ⟨Nat.lt_of_lt_of_le kg.1 hX.size, (hX.block g kg.1).trans kg.2.1, kg.2.2⟩
          have hS1 : (Sk w [(w.heap.size, .D n)] g ob) X := ⟨Kp.left (l := [_]) (m := [_]) kk, kg.1, kg.2.1⟩
          clear hX
          simp only [Act.put, List.setIfInBounds_toArray, List.set_cons_succ, List.set_cons_zero]
          refine gpure 12 (some 29) (.tuple #[(zeroD).agg, .bool false, .int .i64 5]) rfl (by kernel_rfl) (by kernel_rfl) (by kernel_rfl) (fun _ _ _ h => h) (by kernel_rfl) (by kernel_rfl) (fun _ => by kernel_rfl) hS1 ?_
          simp only [Act.put, List.setIfInBounds_toArray, List.set_cons_succ, List.set_cons_zero]
          refine gpure 13 (some 42) ((zeroD).agg) rfl (by kernel_rfl) (by kernel_rfl) (by kernel_rfl) (fun _ _ _ h => h) (by kernel_rfl) (by kernel_rfl) (fun _ => by kernel_rfl) hS1 ?_
          simp only [Act.put, List.setIfInBounds_toArray, List.set_cons_succ, List.set_cons_zero]
          refine gpure 14 (some 43) (.bool false) rfl (by kernel_rfl) (by kernel_rfl) (by kernel_rfl) (fun _ _ _ h => h) (by kernel_rfl) (by kernel_rfl) (fun _ => by kernel_rfl) hS1 ?_
          simp only [Act.put, List.setIfInBounds_toArray, List.set_cons_succ, List.set_cons_zero]
          refine gpure 15 (some 44) (.int .i64 5) rfl (by kernel_rfl) (by kernel_rfl) (by kernel_rfl) (fun _ _ _ h => h) (by kernel_rfl) (by kernel_rfl) (fun _ => by kernel_rfl) hS1 ?_
          simp only [Act.put, List.setIfInBounds_toArray, List.set_cons_succ, List.set_cons_zero]
          clear hS1
          have hon : ∀ Z, Z = World.setCells X B 0 (zeroD).cs → (Sk w [(w.heap.size, .D n)] g ob) Z ∧ Kp w Z [(w.heap.size, .D n), (B, .D zeroD)] := by
            intro Z hZ
            have k2 : Kp w Z [(w.heap.size, .D n), (B, .D zeroD)] := by rw [hZ]; exact kk.put 1 rfl
            exact ⟨⟨Kp.left (l := [_]) (m := [_]) k2, by rw [hZ, size_setCells]; exact kg.1, by rw [hZ, heap_setCells _ _ _ _ _ kg.2.2]; exact kg.2.1⟩, k2⟩
          refine wpAnyH_ready (rs := [17]) (by kernel_rfl) (by simp) (gstore 17 (x := .tmp 9) (y := .tmp 42) (b := B) (d := zeroD) (u := zeroD) rfl (by kernel_rfl) (by kernel_rfl) (by kernel_rfl) (by kernel_rfl) (by kernel_rfl) (kk.get 1 rfl) (hon _ rfl).1 ?_ AllReadyH.nil)
          intro Z hZ
          obtain ⟨hSz, LX⟩ := hon Z hZ
          have hbg := kg.2.2
          clear hZ kk hon kg
          simp only [Act.put, List.setIfInBounds_toArray, List.set_cons_succ, List.set_cons_zero]
          refine gpure 18 (some 10) (.bool false) rfl (by kernel_rfl) (by kernel_rfl) (by kernel_rfl) (fun _ _ _ h => h) (by kernel_rfl) (by kernel_rfl) (fun _ => by kernel_rfl) hSz ?_
          simp only [Act.put, List.setIfInBounds_toArray, List.set_cons_succ, List.set_cons_zero]
          refine gpure 19 (some 11) (.int .i64 5) rfl (by kernel_rfl) (by kernel_rfl) (by kernel_rfl) (fun _ _ _ h => h) (by kernel_rfl) (by kernel_rfl) (fun _ => by kernel_rfl) hSz ?_
          simp only [Act.put, List.setIfInBounds_toArray, List.set_cons_succ, List.set_cons_zero]
          refine wpAnyH_done (by kernel_rfl) ?_ _
          try simp only [Act.put, List.setIfInBounds_toArray, List.set_cons_succ, List.set_cons_zero]
          clear LL
          have LL := hide LX
          have HG := hide (And.intro hSz.2.1 (And.intro hSz.2.2 hbg))
          clear LX hSz hbg
          go_wp2_with (first | go_skip | ((with_reducible apply load27); (case ho => rfl); (case hw => rfl); (case hx => rfl); (case hc => first | exact (unhide LL).get 0 rfl | exact (unhide LL).get 1 rfl); simp only [Act.put, List.setIfInBounds_toArray, List.set_cons_succ, List.set_cons_zero]))
          go_roundg (l.length - (j + 1))
          case measure => omega
          case rel => exact ⟨j + 1, all, by go_num, by omega, Nat.le_refl _, hide (allk_next (unhide HA)), hide ((unhide HO).keep ((unhide HG).2.1.trans hob.symm)), hide (Kp.left (l := [_]) (m := [_]) (unhide LL))⟩
    · have hjz : ¬ (j : Int) < l.length := by omega
      have HS0 : Hid (Sk w [(w.heap.size, .D n)] g ob wr) := hide ⟨unhide LL, hgw, hob⟩
      rcases (unhide HA).1 with ⟨hst, hrow⟩ | ⟨hst, hall⟩
      · have HROW := hide hrow
        clear hrow hst
        go_wp2
        go_loopg [12] (m + 1) (fun g2 s12 wr2 => ∃ i : Nat, s12 = .int .i64 i ∧ i ≤ m + 1 ∧ m + 1 - i ≤ g2 ∧ Hid (Sk w [(w.heap.size, .D n)] g ob wr2))
        case atStart => exact ⟨0, rfl, by omega, by omega, HS0⟩
        case round =>
          obtain ⟨i, rfl, hi, hgi, HS⟩ := hrel
          by_cases hilt : i < m + 1
          · have hiz : (i : Int) < (m : Int) + 1 := by omega
            go_wp2
            go_loopg [13] (m + 1) (fun g3 s13 wr3 => ∃ k : Nat, s13 = .int .i64 k ∧ i ≤ k ∧ k ≤ m + 1 ∧ m + 1 - k ≤ g3 ∧ Hid (Sk w [(w.heap.size, .D n)] g ob wr3))
            case atStart => exact ⟨i, rfl, Nat.le_refl _, by omega, by omega, HS⟩
            case round =>
              obtain ⟨k, rfl, hik, hk, hgk, HS3⟩ := hrel
              by_cases hklt : k < m + 1
              · have hkz : (k : Int) < (m : Int) + 1 := by omega
                obtain ⟨a, haj⟩ : ∃ a, a = all[i]'(by omega) := ⟨_, rfl⟩
                obtain ⟨d, hdj⟩ : ∃ d, d = all[k]'(by omega) := ⟨_, rfl⟩
                have hka := row_get (unhide HROW) hik (show k < all.length by omega)
                rw [← haj, ← hdj] at hka
                have hfa : FD a := by rw [haj]; exact (unhide HA).2.1 _ (List.getElem_mem _)
                have hfd : FD d := by rw [hdj]; exact (unhide HA).2.1 _ (List.getElem_mem _)
                have HRA : Hid (∀ X, Sk w [(w.heap.size, .D n)] g ob X → X.rangeAt g (0 + i * 18) a.cs) := hide (fun X hX => by
                  rw [haj]
                  exact (unhide HRW).keep (hX.2.2.trans hob.symm) i (by omega))
                have HRB : Hid (∀ X, Sk w [(w.heap.size, .D n)] g ob X → X.rangeAt g (0 + k * 18) d.cs) := hide (fun X hX => by
                  rw [hdj]
                  exact (unhide HRW).keep (hX.2.2.trans hob.symm) k (by omega))
                have HX := hide (fun w hT => keeps_any a d hfa hfd w hT)
                rw [hka.1, hka.2] at HX
                clear hka hfa hfd haj hdj
                go_wp2_with fail
                refine wp_region_held_drew (P := Tryd.prog) (S := Sk w [(w.heap.size, .D n)] g ob) (by kernel_rfl) (⟨Kp.drew (unhide HS3).1, (unhide HS3).2.1, (unhide HS3).2.2⟩) (fun hS0 => ?_)
                refine gpure 0 (some 65) (.slice (some ⟨g, 0, none⟩) (m + 1) c) rfl (by kernel_rfl) (by kernel_rfl) (by kernel_rfl) (fun _ _ _ h => h) (by kernel_rfl) (by kernel_rfl) (fun _ => by kernel_rfl) hS0 ?_
                simp only [Act.put, List.setIfInBounds_toArray, List.set_cons_succ, List.set_cons_zero]
                refine gpure 1 (some 66) (.int .i64 ((i : Nat) : Int)) rfl (by kernel_rfl) (by kernel_rfl) (by kernel_rfl) (fun _ _ _ h => h) (by kernel_rfl) (by kernel_rfl) (fun _ => by kernel_rfl) hS0 ?_
                simp only [Act.put, List.setIfInBounds_toArray, List.set_cons_succ, List.set_cons_zero]
                refine gindex 2 (some 67) (x := .tmp 65) (ix := .tmp 66) (b := g) (off := 0) (n := m + 1) (cap := c) i rfl (by kernel_rfl) (by kernel_rfl) (by kernel_rfl) (fun _ _ _ h => h) (by kernel_rfl) (by kernel_rfl) (by kernel_rfl) (by kernel_rfl) (by kernel_rfl) hilt hS0 ?_
                simp only [Act.put, List.setIfInBounds_toArray, List.set_cons_succ, List.set_cons_zero]
                refine gload 3 (some 68) (x := .tmp 67) (b := g) (p := 0 + i * 18) (d := a) rfl (by kernel_rfl) (by kernel_rfl) (by kernel_rfl) (fun _ _ _ h => h) (by kernel_rfl) (by kernel_rfl) (by kernel_rfl) (by kernel_rfl) (unhide HRA) hS0 ?_
                simp only [Act.put, List.setIfInBounds_toArray, List.set_cons_succ, List.set_cons_zero]
                refine gpure 4 (some 69) (.slice (some ⟨g, 0, none⟩) (m + 1) c) rfl (by kernel_rfl) (by kernel_rfl) (by kernel_rfl) (fun _ _ _ h => h) (by kernel_rfl) (by kernel_rfl) (fun _ => by kernel_rfl) hS0 ?_
                simp only [Act.put, List.setIfInBounds_toArray, List.set_cons_succ, List.set_cons_zero]
                refine gpure 5 (some 70) (.int .i64 ((k : Nat) : Int)) rfl (by kernel_rfl) (by kernel_rfl) (by kernel_rfl) (fun _ _ _ h => h) (by kernel_rfl) (by kernel_rfl) (fun _ => by kernel_rfl) hS0 ?_
                simp only [Act.put, List.setIfInBounds_toArray, List.set_cons_succ, List.set_cons_zero]
                refine gindex 6 (some 71) (x := .tmp 69) (ix := .tmp 70) (b := g) (off := 0) (n := m + 1) (cap := c) k rfl (by kernel_rfl) (by kernel_rfl) (by kernel_rfl) (fun _ _ _ h => h) (by kernel_rfl) (by kernel_rfl) (by kernel_rfl) (by kernel_rfl) (by kernel_rfl) hklt hS0 ?_
                simp only [Act.put, List.setIfInBounds_toArray, List.set_cons_succ, List.set_cons_zero]
                refine gload 7 (some 72) (x := .tmp 71) (b := g) (p := 0 + k * 18) (d := d) rfl (by kernel_rfl) (by kernel_rfl) (by kernel_rfl) (fun _ _ _ h => h) (by kernel_rfl) (by kernel_rfl) (by kernel_rfl) (by kernel_rfl) (unhide HRB) hS0 ?_
                simp only [Act.put, List.setIfInBounds_toArray, List.set_cons_succ, List.set_cons_zero]
                refine wpAnyH_ready (rs := [8]) (by kernel_rfl) (by simp) (gcall 8 (some 73) rfl (by kernel_rfl) (by kernel_rfl) (by kernel_rfl) (unhide HX _ (tabs_below (unhide HT) hS0.1.below)) (fun X hX => hS0.on hX) ?_ AllReadyH.nil)
                intro X hX
                have hS1 := hS0.on hX
                clear hX hS0
                simp only [Act.put, List.setIfInBounds_toArray, List.set_cons_succ, List.set_cons_zero]
                refine gpure 9 (some 64) (.tuple #[.bool true, .int .i64 0]) rfl (by kernel_rfl) (by kernel_rfl) (by kernel_rfl) (fun _ _ _ h => h) (by kernel_rfl) (by kernel_rfl) (fun _ => by kernel_rfl) hS1 ?_
                simp only [Act.put, List.setIfInBounds_toArray, List.set_cons_succ, List.set_cons_zero]
                refine gpure 10 (some 74) (.bool true) rfl (by kernel_rfl) (by kernel_rfl) (by kernel_rfl) (fun _ _ _ h => h) (by kernel_rfl) (by kernel_rfl) (fun _ => by kernel_rfl) hS1 ?_
                simp only [Act.put, List.setIfInBounds_toArray, List.set_cons_succ, List.set_cons_zero]
                refine gpure 11 (some 75) (.int .i64 0) rfl (by kernel_rfl) (by kernel_rfl) (by kernel_rfl) (fun _ _ _ h => h) (by kernel_rfl) (by kernel_rfl) (fun _ => by kernel_rfl) hS1 ?_
                simp only [Act.put, List.setIfInBounds_toArray, List.set_cons_succ, List.set_cons_zero]
                refine gpure 12 (some 14) (.bool true) rfl (by kernel_rfl) (by kernel_rfl) (by kernel_rfl) (fun _ _ _ h => h) (by kernel_rfl) (by kernel_rfl) (fun _ => by kernel_rfl) hS1 ?_
                simp only [Act.put, List.setIfInBounds_toArray, List.set_cons_succ, List.set_cons_zero]
                refine gpure 13 (some 15) (.int .i64 0) rfl (by kernel_rfl) (by kernel_rfl) (by kernel_rfl) (fun _ _ _ h => h) (by kernel_rfl) (by kernel_rfl) (fun _ => by kernel_rfl) hS1 ?_
                simp only [Act.put, List.setIfInBounds_toArray, List.set_cons_succ, List.set_cons_zero]
                refine wpAnyH_done (by kernel_rfl) ?_ _
                try simp only [Act.put, List.setIfInBounds_toArray, List.set_cons_succ, List.set_cons_zero]
                clear HS3
                have HS3 := hide hS1
                clear hS1
                go_wp2
                go_roundg (m + 1 - (k + 1))
                case measure => omega
                case rel => exact ⟨k + 1, by go_num, by omega, by omega, Nat.le_refl _, HS3⟩
              · have hkz : ¬ (k : Int) < (m : Int) + 1 := by omega
                go_wp2
                go_roundg (m + 1 - (i + 1))
                case measure => omega
                case rel => exact ⟨i + 1, by go_num, by omega, Nat.le_refl _, HS3⟩
          · have hiz : ¬ (i : Int) < (m : Int) + 1 := by omega
            go_wp2
            go_ret
            exact ⟨rfl, (unhide HS).1.below⟩
      · subst hall
        obtain rfl : m = 0 := by simpa using hm
        have hwn : wholeV n = false := by
          cases h : wholeV n
          · rfl
          · rw [(whole_st h).1] at hst
            cases hst
        have hke : keepE n n = 5 ∧ keepB n n = false := by
          unfold keepE keepB
          rw [hst]
          exact ⟨rfl, rfl⟩
        rw [hwn] at HWn
        rw [hke.1, hke.2] at HKn
        clear hwn hke hst
        have HX := HKn
        have HRA : Hid (∀ X, Sk w [(w.heap.size, .D n)] g ob X → X.rangeAt g (0 + 0 * 18) n.cs) := hide (fun X hX => (unhide HRW).keep (hX.2.2.trans hob.symm) 0 (by simp))
        have HRB := HRA
        have hilt : 0 < 0 + 1 := Nat.lt_succ_self 0
        have hklt := hilt
        obtain ⟨a, ha⟩ : ∃ a, a = n := ⟨_, rfl⟩
        obtain ⟨d, hd⟩ : ∃ d, d = n := ⟨_, rfl⟩
        go_wp2
        go_loopg [12] 1 (fun g2 s12 wr2 => s12 = .int .i64 0 ∧ Hid (Sk w [(w.heap.size, .D n)] g ob wr2))
        case atStart => exact ⟨rfl, HS0⟩
        case round =>
          obtain ⟨rfl, HS⟩ := hrel
          go_wp2
          go_loopg [13] 1 (fun g3 s13 wr3 => s13 = .int .i64 0 ∧ Hid (Sk w [(w.heap.size, .D n)] g ob wr3))
          case atStart => exact ⟨rfl, HS⟩
          case round =>
            obtain ⟨rfl, HS3⟩ := hrel
            go_wp2_with fail
            refine wp_region_held_drew (P := Tryd.prog) (S := Sk w [(w.heap.size, .D n)] g ob) (by kernel_rfl) (⟨Kp.drew (unhide HS3).1, (unhide HS3).2.1, (unhide HS3).2.2⟩) (fun hS0 => ?_)
            refine gpure 0 (some 65) (.slice (some ⟨g, 0, none⟩) (0 + 1) c) rfl (by kernel_rfl) (by kernel_rfl) (by kernel_rfl) (fun _ _ _ h => h) (by kernel_rfl) (by kernel_rfl) (fun _ => by kernel_rfl) hS0 ?_
            simp only [Act.put, List.setIfInBounds_toArray, List.set_cons_succ, List.set_cons_zero]
            refine gpure 1 (some 66) (.int .i64 ((0 : Nat) : Int)) rfl (by kernel_rfl) (by kernel_rfl) (by kernel_rfl) (fun _ _ _ h => h) (by kernel_rfl) (by kernel_rfl) (fun _ => by kernel_rfl) hS0 ?_
            simp only [Act.put, List.setIfInBounds_toArray, List.set_cons_succ, List.set_cons_zero]
            refine gindex 2 (some 67) (x := .tmp 65) (ix := .tmp 66) (b := g) (off := 0) (n := 0 + 1) (cap := c) 0 rfl (by kernel_rfl) (by kernel_rfl) (by kernel_rfl) (fun _ _ _ h => h) (by kernel_rfl) (by kernel_rfl) (by kernel_rfl) (by kernel_rfl) (by kernel_rfl) hilt hS0 ?_
            simp only [Act.put, List.setIfInBounds_toArray, List.set_cons_succ, List.set_cons_zero]
            refine gload 3 (some 68) (x := .tmp 67) (b := g) (p := 0 + 0 * 18) (d := n) rfl (by kernel_rfl) (by kernel_rfl) (by kernel_rfl) (fun _ _ _ h => h) (by kernel_rfl) (by kernel_rfl) (by kernel_rfl) (by kernel_rfl) (unhide HRA) hS0 ?_
            simp only [Act.put, List.setIfInBounds_toArray, List.set_cons_succ, List.set_cons_zero]
            refine gpure 4 (some 69) (.slice (some ⟨g, 0, none⟩) (0 + 1) c) rfl (by kernel_rfl) (by kernel_rfl) (by kernel_rfl) (fun _ _ _ h => h) (by kernel_rfl) (by kernel_rfl) (fun _ => by kernel_rfl) hS0 ?_
            simp only [Act.put, List.setIfInBounds_toArray, List.set_cons_succ, List.set_cons_zero]
            refine gpure 5 (some 70) (.int .i64 ((0 : Nat) : Int)) rfl (by kernel_rfl) (by kernel_rfl) (by kernel_rfl) (fun _ _ _ h => h) (by kernel_rfl) (by kernel_rfl) (fun _ => by kernel_rfl) hS0 ?_
            simp only [Act.put, List.setIfInBounds_toArray, List.set_cons_succ, List.set_cons_zero]
            refine gindex 6 (some 71) (x := .tmp 69) (ix := .tmp 70) (b := g) (off := 0) (n := 0 + 1) (cap := c) 0 rfl (by kernel_rfl) (by kernel_rfl) (by kernel_rfl) (fun _ _ _ h => h) (by kernel_rfl) (by kernel_rfl) (by kernel_rfl) (by kernel_rfl) (by kernel_rfl) hklt hS0 ?_
            simp only [Act.put, List.setIfInBounds_toArray, List.set_cons_succ, List.set_cons_zero]
            refine gload 7 (some 72) (x := .tmp 71) (b := g) (p := 0 + 0 * 18) (d := n) rfl (by kernel_rfl) (by kernel_rfl) (by kernel_rfl) (fun _ _ _ h => h) (by kernel_rfl) (by kernel_rfl) (by kernel_rfl) (by kernel_rfl) (unhide HRB) hS0 ?_
            simp only [Act.put, List.setIfInBounds_toArray, List.set_cons_succ, List.set_cons_zero]
            refine wpAnyH_ready (rs := [8]) (by kernel_rfl) (by simp) (gcall 8 (some 73) rfl (by kernel_rfl) (by kernel_rfl) (by kernel_rfl) (unhide HX _ (tabs_below (unhide HT) hS0.1.below)) (fun X hX => hS0.on hX) ?_ AllReadyH.nil)
            intro X hX
            have hS1 := hS0.on hX
            clear hX hS0
            simp only [Act.put, List.setIfInBounds_toArray, List.set_cons_succ, List.set_cons_zero]
            refine gpure 9 (some 64) (.tuple #[.bool false, .int .i64 5]) rfl (by kernel_rfl) (by kernel_rfl) (by kernel_rfl) (fun _ _ _ h => h) (by kernel_rfl) (by kernel_rfl) (fun _ => by kernel_rfl) hS1 ?_
            simp only [Act.put, List.setIfInBounds_toArray, List.set_cons_succ, List.set_cons_zero]
            refine gpure 10 (some 74) (.bool false) rfl (by kernel_rfl) (by kernel_rfl) (by kernel_rfl) (fun _ _ _ h => h) (by kernel_rfl) (by kernel_rfl) (fun _ => by kernel_rfl) hS1 ?_
            simp only [Act.put, List.setIfInBounds_toArray, List.set_cons_succ, List.set_cons_zero]
            refine gpure 11 (some 75) (.int .i64 5) rfl (by kernel_rfl) (by kernel_rfl) (by kernel_rfl) (fun _ _ _ h => h) (by kernel_rfl) (by kernel_rfl) (fun _ => by kernel_rfl) hS1 ?_
            simp only [Act.put, List.setIfInBounds_toArray, List.set_cons_succ, List.set_cons_zero]
            refine gpure 12 (some 14) (.bool false) rfl (by kernel_rfl) (by kernel_rfl) (by kernel_rfl) (fun _ _ _ h => h) (by kernel_rfl) (by kernel_rfl) (fun _ => by kernel_rfl) hS1 ?_
            simp only [Act.put, List.setIfInBounds_toArray, List.set_cons_succ, List.set_cons_zero]
            refine gpure 13 (some 15) (.int .i64 5) rfl (by kernel_rfl) (by kernel_rfl) (by kernel_rfl) (fun _ _ _ h => h) (by kernel_rfl) (by kernel_rfl) (fun _ => by kernel_rfl) hS1 ?_
            simp only [Act.put, List.setIfInBounds_toArray, List.set_cons_succ, List.set_cons_zero]
            refine wpAnyH_done (by kernel_rfl) ?_ _
            try simp only [Act.put, List.setIfInBounds_toArray, List.set_cons_succ, List.set_cons_zero]
            clear HS3
            have HS3 := hide hS1
            clear hS1
            replace LL := hide (unhide HS3).1
            go_wp2_with (first | go_skip | ((with_reducible apply load27); (case ho => rfl); (case hw => rfl); (case hx => rfl); (case hc => first | exact (unhide LL).get 0 rfl); simp only [Act.put, List.setIfInBounds_toArray, List.set_cons_succ, List.set_cons_zero]))
            refine (unhide HWn _ (tabs_below (unhide HT) (unhide LL).below)).mono ?_
            rintro _ w21 ⟨rfl, hb⟩
            replace LL := hide ((unhide LL).on hb)
            clear hb
            go_wp2_with (first | go_skip | ((with_reducible apply load27); (case ho => rfl); (case hw => rfl); (case hx => rfl); (case hc => first | exact (unhide LL).get 0 rfl); simp only [Act.put, List.setIfInBounds_toArray, List.set_cons_succ, List.set_cons_zero]))
            go_ret
            exact ⟨rfl, (unhide LL).below⟩
set_option maxHeartbeats 20000000 in
set_option maxRecDepth 100000 in
theorem keeps_nil (A : Option Addr) (cap : Nat) (x : Bool) (n : DD) (hn : FD n) (w : World) (hT : Lib.Utf8Tabs 1 2 w) : Calls Tryd.prog 6 #[.bool x, n.agg, .slice A 0 cap] w fun e w' => e = .returned (.bool true) ∧ Below w.heap.size w w' := by
  have HAw := hide awake_any
  have HFN := hide hn
  have HWn := hide (fun w hT => whole_any n hn w hT)
  have HKn := hide (fun w hT => keeps_any n n hn hn w hT)
  have HT := hide hT
  clear hT
  clear hn
  have LL := hide (Kp.of1 (Lie.new1 w (.D n)))
  have hq0 : n.agg = .agg #[.int .i64 n.v.k, .bool n.v.b, .float .f64 n.v.x, .string n.v.s, .int .i64 n.v.i, .int .i64 n.g.k, .bool n.g.b, .float .f64 n.g.x, .string n.g.s, .int .i64 n.g.i, .int .i64 n.s.k, .bool n.s.b, .float .f64 n.s.x, .string n.s.s, .int .i64 n.s.i, .int .i64 n.w, .int .i64 n.e, .int .i64 n.c] := rfl
  rw [hq0]
  clear hq0
  go_enter Tryd.func6, Tryd.ntmps6
  go_wp2_with (first | go_skip | ((with_reducible apply load27); (case ho => rfl); (case hw => rfl); (case hx => rfl); (case hc => first | exact (unhide LL).get 0 rfl | exact (unhide LL).get 1 rfl); simp only [Act.put, List.setIfInBounds_toArray, List.set_cons_succ, List.set_cons_zero]))
  refine (unhide HAw _ (tabs_below (unhide HT) (unhide LL).below)).mono ?_
  rintro _ w1 ⟨rfl, hb⟩
  replace LL := hide ((unhide LL).on hb)
  clear hb
  go_wp2_with (first | go_skip | ((with_reducible apply load27); (case ho => rfl); (case hw => rfl); (case hx => rfl); (case hc => first | exact (unhide LL).get 0 rfl | exact (unhide LL).get 1 rfl); simp only [Act.put, List.setIfInBounds_toArray, List.set_cons_succ, List.set_cons_zero]) | ((with_reducible apply kbuild); (case ho => rfl); (case hw => rfl); (case hL => exact unhide LL); (case hx => rfl); (intro X h1 h2 h3 LX; simp only [Act.put, List.setIfInBounds_toArray, List.set_cons_succ, List.set_cons_zero]; have HO := hide (own_new (base := w.heap.size + 1) h1 ((unhide LL).all _ (List.mem_singleton.2 rfl)).2.1); replace LL := hide (Kp.left (l := [_]) (m := [_]) LX); clear h1 h2 h3 LX)))
  go_loopg [7, 8] 0 (fun gm s7 s8 wr => ∃ (all : List DD), s8 = .int .i64 0 ∧ Hid (AllK n all 0) ∧ Hid (OwnD wr (w.heap.size + 1) s7 all) ∧ Hid (Kp w wr [(w.heap.size, .D n)]))
  case atStart => exact ⟨[n], rfl, hide (allk_one (unhide HFN)), HO, LL⟩
  case round =>
    clear HO LL
    obtain ⟨all, rfl, HA, HO, LL⟩ := hrel
    obtain ⟨m, hm⟩ : ∃ m, all.length = m + 1 := ⟨all.length - 1, by have := (unhide HA).2.2.1; omega⟩
    obtain ⟨g, c, hs7, hbg0, hgw, hrw⟩ := (unhide HO).form (unhide HA).2.2.1
    rw [hm] at hs7
    subst hs7
    have HRW := hide hrw
    clear hrw
    have hm60 : m < 1000 := by have := (unhide HA).2.2.2; omega
    obtain ⟨ob, hob⟩ : ∃ ob, wr.heap[g]? = ob := ⟨_, rfl⟩
    have HS0 : Hid (Sk w [(w.heap.size, .D n)] g ob wr) := hide ⟨unhide LL, hgw, hob⟩
    rcases (unhide HA).1 with ⟨hst, hrow⟩ | ⟨hst, hall⟩
    · have HROW := hide hrow
      clear hrow hst
      go_wp2
      go_loopg [12] (m + 1) (fun g2 s12 wr2 => ∃ i : Nat, s12 = .int .i64 i ∧ i ≤ m + 1 ∧ m + 1 - i ≤ g2 ∧ Hid (Sk w [(w.heap.size, .D n)] g ob wr2))
      case atStart => exact ⟨0, rfl, by omega, by omega, HS0⟩
      case round =>
        obtain ⟨i, rfl, hi, hgi, HS⟩ := hrel
        by_cases hilt : i < m + 1
        · have hiz : (i : Int) < (m : Int) + 1 := by omega
          go_wp2
          go_loopg [13] (m + 1) (fun g3 s13 wr3 => ∃ k : Nat, s13 = .int .i64 k ∧ i ≤ k ∧ k ≤ m + 1 ∧ m + 1 - k ≤ g3 ∧ Hid (Sk w [(w.heap.size, .D n)] g ob wr3))
          case atStart => exact ⟨i, rfl, Nat.le_refl _, by omega, by omega, HS⟩
          case round =>
            obtain ⟨k, rfl, hik, hk, hgk, HS3⟩ := hrel
            by_cases hklt : k < m + 1
            · have hkz : (k : Int) < (m : Int) + 1 := by omega
              obtain ⟨a, haj⟩ : ∃ a, a = all[i]'(by omega) := ⟨_, rfl⟩
              obtain ⟨d, hdj⟩ : ∃ d, d = all[k]'(by omega) := ⟨_, rfl⟩
              have hka := row_get (unhide HROW) hik (show k < all.length by omega)
              rw [← haj, ← hdj] at hka
              have hfa : FD a := by rw [haj]; exact (unhide HA).2.1 _ (List.getElem_mem _)
              have hfd : FD d := by rw [hdj]; exact (unhide HA).2.1 _ (List.getElem_mem _)
              have HRA : Hid (∀ X, Sk w [(w.heap.size, .D n)] g ob X → X.rangeAt g (0 + i * 18) a.cs) := hide (fun X hX => by
                rw [haj]
                exact (unhide HRW).keep (hX.2.2.trans hob.symm) i (by omega))
              have HRB : Hid (∀ X, Sk w [(w.heap.size, .D n)] g ob X → X.rangeAt g (0 + k * 18) d.cs) := hide (fun X hX => by
                rw [hdj]
                exact (unhide HRW).keep (hX.2.2.trans hob.symm) k (by omega))
              have HX := hide (fun w hT => keeps_any a d hfa hfd w hT)
              rw [hka.1, hka.2] at HX
              clear hka hfa hfd haj hdj
              go_wp2_with fail
              refine wp_region_held_drew (P := Tryd.prog) (S := Sk w [(w.heap.size, .D n)] g ob) (by kernel_rfl) (⟨Kp.drew (unhide HS3).1, (unhide HS3).2.1, (unhide HS3).2.2⟩) (fun hS0 => ?_)
              refine gpure 0 (some 65) (.slice (some ⟨g, 0, none⟩) (m + 1) c) rfl (by kernel_rfl) (by kernel_rfl) (by kernel_rfl) (fun _ _ _ h => h) (by kernel_rfl) (by kernel_rfl) (fun _ => by kernel_rfl) hS0 ?_
              simp only [Act.put, List.setIfInBounds_toArray, List.set_cons_succ, List.set_cons_zero]
              refine gpure 1 (some 66) (.int .i64 ((i : Nat) : Int)) rfl (by kernel_rfl) (by kernel_rfl) (by kernel_rfl) (fun _ _ _ h => h) (by kernel_rfl) (by kernel_rfl) (fun _ => by kernel_rfl) hS0 ?_
              simp only [Act.put, List.setIfInBounds_toArray, List.set_cons_succ, List.set_cons_zero]
              refine gindex 2 (some 67) (x := .tmp 65) (ix := .tmp 66) (b := g) (off := 0) (n := m + 1) (cap := c) i rfl (by kernel_rfl) (by kernel_rfl) (by kernel_rfl) (fun _ _ _ h => h) (by kernel_rfl) (by kernel_rfl) (by kernel_rfl) (by kernel_rfl) (by kernel_rfl) hilt hS0 ?_
              simp only [Act.put, List.setIfInBounds_toArray, List.set_cons_succ, List.set_cons_zero]
              refine gload 3 (some 68) (x := .tmp 67) (b := g) (p := 0 + i * 18) (d := a) rfl (by kernel_rfl) (by kernel_rfl) (by kernel_rfl) (fun _ _ _ h => h) (by kernel_rfl) (by kernel_rfl) (by kernel_rfl) (by kernel_rfl) (unhide HRA) hS0 ?_
              simp only [Act.put, List.setIfInBounds_toArray, List.set_cons_succ, List.set_cons_zero]
              refine gpure 4 (some 69) (.slice (some ⟨g, 0, none⟩) (m + 1) c) rfl (by kernel_rfl) (by kernel_rfl) (by kernel_rfl) (fun _ _ _ h => h) (by kernel_rfl) (by kernel_rfl) (fun _ => by kernel_rfl) hS0 ?_
              simp only [Act.put, List.setIfInBounds_toArray, List.set_cons_succ, List.set_cons_zero]
              refine gpure 5 (some 70) (.int .i64 ((k : Nat) : Int)) rfl (by kernel_rfl) (by kernel_rfl) (by kernel_rfl) (fun _ _ _ h => h) (by kernel_rfl) (by kernel_rfl) (fun _ => by kernel_rfl) hS0 ?_
              simp only [Act.put, List.setIfInBounds_toArray, List.set_cons_succ, List.set_cons_zero]
              refine gindex 6 (some 71) (x := .tmp 69) (ix := .tmp 70) (b := g) (off := 0) (n := m + 1) (cap := c) k rfl (by kernel_rfl) (by kernel_rfl) (by kernel_rfl) (fun _ _ _ h => h) (by kernel_rfl) (by kernel_rfl) (by kernel_rfl) (by kernel_rfl) (by kernel_rfl) hklt hS0 ?_
              simp only [Act.put, List.setIfInBounds_toArray, List.set_cons_succ, List.set_cons_zero]
              refine gload 7 (some 72) (x := .tmp 71) (b := g) (p := 0 + k * 18) (d := d) rfl (by kernel_rfl) (by kernel_rfl) (by kernel_rfl) (fun _ _ _ h => h) (by kernel_rfl) (by kernel_rfl) (by kernel_rfl) (by kernel_rfl) (unhide HRB) hS0 ?_
              simp only [Act.put, List.setIfInBounds_toArray, List.set_cons_succ, List.set_cons_zero]
              refine wpAnyH_ready (rs := [8]) (by kernel_rfl) (by simp) (gcall 8 (some 73) rfl (by kernel_rfl) (by kernel_rfl) (by kernel_rfl) (unhide HX _ (tabs_below (unhide HT) hS0.1.below)) (fun X hX => hS0.on hX) ?_ AllReadyH.nil)
              intro X hX
              have hS1 := hS0.on hX
              clear hX hS0
              simp only [Act.put, List.setIfInBounds_toArray, List.set_cons_succ, List.set_cons_zero]
              refine gpure 9 (some 64) (.tuple #[.bool true, .int .i64 0]) rfl (by kernel_rfl) (by kernel_rfl) (by kernel_rfl) (fun _ _ _ h => h) (by kernel_rfl) (by kernel_rfl) (fun _ => by kernel_rfl) hS1 ?_
              simp only [Act.put, List.setIfInBounds_toArray, List.set_cons_succ, List.set_cons_zero]
              refine gpure 10 (some 74) (.bool true) rfl (by kernel_rfl) (by kernel_rfl) (by kernel_rfl) (fun _ _ _ h => h) (by kernel_rfl) (by kernel_rfl) (fun _ => by kernel_rfl) hS1 ?_
              simp only [Act.put, List.setIfInBounds_toArray, List.set_cons_succ, List.set_cons_zero]
              refine gpure 11 (some 75) (.int .i64 0) rfl (by kernel_rfl) (by kernel_rfl) (by kernel_rfl) (fun _ _ _ h => h) (by kernel_rfl) (by kernel_rfl) (fun _ => by kernel_rfl) hS1 ?_
              simp only [Act.put, List.setIfInBounds_toArray, List.set_cons_succ, List.set_cons_zero]
              refine gpure 12 (some 14) (.bool true) rfl (by kernel_rfl) (by kernel_rfl) (by kernel_rfl) (fun _ _ _ h => h) (by kernel_rfl) (by kernel_rfl) (fun _ => by kernel_rfl) hS1 ?_
              simp only [Act.put, List.setIfInBounds_toArray, List.set_cons_succ, List.set_cons_zero]
              refine gpure 13 (some 15) (.int .i64 0) rfl (by kernel_rfl) (by kernel_rfl) (by kernel_rfl) (fun _ _ _ h => h) (by kernel_rfl) (by kernel_rfl) (fun _ => by kernel_rfl) hS1 ?_
              simp only [Act.put, List.setIfInBounds_toArray, List.set_cons_succ, List.set_cons_zero]
              refine wpAnyH_done (by kernel_rfl) ?_ _
              try simp only [Act.put, List.setIfInBounds_toArray, List.set_cons_succ, List.set_cons_zero]
              clear HS3
              have HS3 := hide hS1
              clear hS1
              go_wp2
              go_roundg (m + 1 - (k + 1))
              case measure => omega
              case rel => exact ⟨k + 1, by go_num, by omega, by omega, Nat.le_refl _, HS3⟩
            · have hkz : ¬ (k : Int) < (m : Int) + 1 := by omega
              go_wp2
              go_roundg (m + 1 - (i + 1))
              case measure => omega
              case rel => exact ⟨i + 1, by go_num, by omega, Nat.le_refl _, HS3⟩
        · have hiz : ¬ (i : Int) < (m : Int) + 1 := by omega
          go_wp2
          go_ret
          exact ⟨rfl, (unhide HS).1.below⟩
    · subst hall
      obtain rfl : m = 0 := by simpa using hm
      have hwn : wholeV n = false := by
        cases h : wholeV n
        · rfl
        · rw [(whole_st h).1] at hst
          cases hst
      have hke : keepE n n = 5 ∧ keepB n n = false := by
        unfold keepE keepB
        rw [hst]
        exact ⟨rfl, rfl⟩
      rw [hwn] at HWn
      rw [hke.1, hke.2] at HKn
      clear hwn hke hst
      have HX := HKn
      have HRA : Hid (∀ X, Sk w [(w.heap.size, .D n)] g ob X → X.rangeAt g (0 + 0 * 18) n.cs) := hide (fun X hX => (unhide HRW).keep (hX.2.2.trans hob.symm) 0 (by simp))
      have HRB := HRA
      have hilt : 0 < 0 + 1 := Nat.lt_succ_self 0
      have hklt := hilt
      obtain ⟨a, ha⟩ : ∃ a, a = n := ⟨_, rfl⟩
      obtain ⟨d, hd⟩ : ∃ d, d = n := ⟨_, rfl⟩
      go_wp2
      go_loopg [12] 1 (fun g2 s12 wr2 => s12 = .int .i64 0 ∧ Hid (Sk w [(w.heap.size, .D n)] g ob wr2))
      case atStart => exact ⟨rfl, HS0⟩
      case round =>
        obtain ⟨rfl, HS⟩ := hrel
        go_wp2
        go_loopg [13] 1 (fun g3 s13 wr3 => s13 = .int .i64 0 ∧ Hid (Sk w [(w.heap.size, .D n)] g ob wr3))
        case atStart => exact ⟨rfl, HS⟩
        case round =>
          obtain ⟨rfl, HS3⟩ := hrel
          go_wp2_with fail
          refine wp_region_held_drew (P := Tryd.prog) (S := Sk w [(w.heap.size, .D n)] g ob) (by kernel_rfl) (⟨Kp.drew (unhide HS3).1, (unhide HS3).2.1, (unhide HS3).2.2⟩) (fun hS0 => ?_)
          refine gpure 0 (some 65) (.slice (some ⟨g, 0, none⟩) (0 + 1) c) rfl (by kernel_rfl) (by kernel_rfl) (by kernel_rfl) (fun _ _ _ h => h) (by kernel_rfl) (by kernel_rfl) (fun _ => by kernel_rfl) hS0 ?_
          simp only [Act.put, List.setIfInBounds_toArray, List.set_cons_succ, List.set_cons_zero]
          refine gpure 1 (some 66) (.int .i64 ((0 : Nat) : Int)) rfl (by kernel_rfl) (by kernel_rfl) (by kernel_rfl) (fun _ _ _ h => h) (by kernel_rfl) (by kernel_rfl) (fun _ => by kernel_rfl) hS0 ?_
          simp only [Act.put, List.setIfInBounds_toArray, List.set_cons_succ, List.set_cons_zero]
          refine gindex 2 (some 67) (x := .tmp 65) (ix := .tmp 66) (b := g) (off := 0) (n := 0 + 1) (cap := c) 0 rfl (by kernel_rfl) (by kernel_rfl) (by kernel_rfl) (fun _ _ _ h => h) (by kernel_rfl) (by kernel_rfl) (by kernel_rfl) (by kernel_rfl) (by kernel_rfl) hilt hS0 ?_
          simp only [Act.put, List.setIfInBounds_toArray, List.set_cons_succ, List.set_cons_zero]
          refine gload 3 (some 68) (x := .tmp 67) (b := g) (p := 0 + 0 * 18) (d := n) rfl (by kernel_rfl) (by kernel_rfl) (by kernel_rfl) (fun _ _ _ h => h) (by kernel_rfl) (by kernel_rfl) (by kernel_rfl) (by kernel_rfl) (unhide HRA) hS0 ?_
          simp only [Act.put, List.setIfInBounds_toArray, List.set_cons_succ, List.set_cons_zero]
          refine gpure 4 (some 69) (.slice (some ⟨g, 0, none⟩) (0 + 1) c) rfl (by kernel_rfl) (by kernel_rfl) (by kernel_rfl) (fun _ _ _ h => h) (by kernel_rfl) (by kernel_rfl) (fun _ => by kernel_rfl) hS0 ?_
          simp only [Act.put, List.setIfInBounds_toArray, List.set_cons_succ, List.set_cons_zero]
          refine gpure 5 (some 70) (.int .i64 ((0 : Nat) : Int)) rfl (by kernel_rfl) (by kernel_rfl) (by kernel_rfl) (fun _ _ _ h => h) (by kernel_rfl) (by kernel_rfl) (fun _ => by kernel_rfl) hS0 ?_
          simp only [Act.put, List.setIfInBounds_toArray, List.set_cons_succ, List.set_cons_zero]
          refine gindex 6 (some 71) (x := .tmp 69) (ix := .tmp 70) (b := g) (off := 0) (n := 0 + 1) (cap := c) 0 rfl (by kernel_rfl) (by kernel_rfl) (by kernel_rfl) (fun _ _ _ h => h) (by kernel_rfl) (by kernel_rfl) (by kernel_rfl) (by kernel_rfl) (by kernel_rfl) hklt hS0 ?_
          simp only [Act.put, List.setIfInBounds_toArray, List.set_cons_succ, List.set_cons_zero]
          refine gload 7 (some 72) (x := .tmp 71) (b := g) (p := 0 + 0 * 18) (d := n) rfl (by kernel_rfl) (by kernel_rfl) (by kernel_rfl) (fun _ _ _ h => h) (by kernel_rfl) (by kernel_rfl) (by kernel_rfl) (by kernel_rfl) (unhide HRB) hS0 ?_
          simp only [Act.put, List.setIfInBounds_toArray, List.set_cons_succ, List.set_cons_zero]
          refine wpAnyH_ready (rs := [8]) (by kernel_rfl) (by simp) (gcall 8 (some 73) rfl (by kernel_rfl) (by kernel_rfl) (by kernel_rfl) (unhide HX _ (tabs_below (unhide HT) hS0.1.below)) (fun X hX => hS0.on hX) ?_ AllReadyH.nil)
          intro X hX
          have hS1 := hS0.on hX
          clear hX hS0
          simp only [Act.put, List.setIfInBounds_toArray, List.set_cons_succ, List.set_cons_zero]
          refine gpure 9 (some 64) (.tuple #[.bool false, .int .i64 5]) rfl (by kernel_rfl) (by kernel_rfl) (by kernel_rfl) (fun _ _ _ h => h) (by kernel_rfl) (by kernel_rfl) (fun _ => by kernel_rfl) hS1 ?_
          simp only [Act.put, List.setIfInBounds_toArray, List.set_cons_succ, List.set_cons_zero]
          refine gpure 10 (some 74) (.bool false) rfl (by kernel_rfl) (by kernel_rfl) (by kernel_rfl) (fun _ _ _ h => h) (by kernel_rfl) (by kernel_rfl) (fun _ => by kernel_rfl) hS1 ?_
          simp only [Act.put, List.setIfInBounds_toArray, List.set_cons_succ, List.set_cons_zero]
          refine gpure 11 (some 75) (.int .i64 5) rfl (by kernel_rfl) (by kernel_rfl) (by kernel_rfl) (fun _ _ _ h => h) (by kernel_rfl) (by kernel_rfl) (fun _ => by kernel_rfl) hS1 ?_
          simp only [Act.put, List.setIfInBounds_toArray, List.set_cons_succ, List.set_cons_zero]
          refine gpure 12 (some 14) (.bool false) rfl (by kernel_rfl) (by kernel_rfl) (by kernel_rfl) (fun _ _ _ h => h) (by kernel_rfl) (by kernel_rfl) (fun _ => by kernel_rfl) hS1 ?_
          simp only [Act.put, List.setIfInBounds_toArray, List.set_cons_succ, List.set_cons_zero]
          refine gpure 13 (some 15) (.int .i64 5) rfl (by kernel_rfl) (by kernel_rfl) (by kernel_rfl) (fun _ _ _ h => h) (by kernel_rfl) (by kernel_rfl) (fun _ => by kernel_rfl) hS1 ?_
          simp only [Act.put, List.setIfInBounds_toArray, List.set_cons_succ, List.set_cons_zero]
          refine wpAnyH_done (by kernel_rfl) ?_ _
          try simp only [Act.put, List.setIfInBounds_toArray, List.set_cons_succ, List.set_cons_zero]
          clear HS3
          have HS3 := hide hS1
          clear hS1
          replace LL := hide (unhide HS3).1
          go_wp2_with (first | go_skip | ((with_reducible apply load27); (case ho => rfl); (case hw => rfl); (case hx => rfl); (case hc => first | exact (unhide LL).get 0 rfl); simp only [Act.put, List.setIfInBounds_toArray, List.set_cons_succ, List.set_cons_zero]))
          refine (unhide HWn _ (tabs_below (unhide HT) (unhide LL).below)).mono ?_
          rintro _ w21 ⟨rfl, hb⟩
          replace LL := hide ((unhide LL).on hb)
          clear hb
          go_wp2_with (first | go_skip | ((with_reducible apply load27); (case ho => rfl); (case hw => rfl); (case hx => rfl); (case hc => first | exact (unhide LL).get 0 rfl); simp only [Act.put, List.setIfInBounds_toArray, List.set_cons_succ, List.set_cons_zero]))
          go_ret
          exact ⟨rfl, (unhide LL).below⟩
theorem law_keeps (v : Value) (x : Bool) (n : DD) (hn : FD n) (l : List DD) (hfd : ∀ d ∈ l, FD d) (w : World) (hT : Lib.Utf8Tabs 1 2 w) (hr : ReadsD w v l) : Calls Tryd.prog 6 #[.bool x, n.agg, v] w fun e w' => e = .returned (.bool true) ∧ Below w.heap.size w w' := by
  rcases hr with ⟨A, c, rfl, rfl⟩ | ⟨b, off, cap, rfl, hb, hr⟩
  · exact keeps_nil A c x n hn w hT
  · by_cases h : l.length ≤ 60
    · exact keeps_rows b off cap x n hn l hfd w hT hb hr h
    · exact keeps_long b off cap x n hn l hfd w hT hb hr (by omega)
end Go.Proofs.YtedgaaaloigpdaaDoor
