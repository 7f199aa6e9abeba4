import Derived.Test.YtcflglloopgieaaKo
namespace Go.Proofs.Ytcflglloopgieaa
open Go Go.Proofs Go.Maps Go.RowKit FM
set_option linter.unusedSimpArgs false
set_option linter.unusedVariables false
set_option maxHeartbeats 1000000
def TLPost (w : World) (M kb n : Nat) (r : Option (List SH)) (e : Ending) (Y : World) : Prop := ∃ (b : Bool) (v : Value) (ds : List DB), e = .returned (.bool b) ∧ Sy w Y [] (boxO M [v] :: core w v ds) ∧ (∀ p ∈ ds, 400 ≤ p.k ∧ p.k ≤ kb + 1) ∧ ds.length ≤ n + 1 ∧ (b = true → r = some (absL ds)) ∧ (b = false → r = none)
theorem takeL_make {m : List SH} {o n : Int} {y : Bool} {v : VV} {q : KK} {z : DD} (h : o = (m.length : Int) + 1) : takeL m ⟨o, 1, n, y, v, q, z⟩ = some (m ++ [⟨n, v, y, []⟩]) := by simp [takeL, h]
theorem takeL_out {m : List SH} {d : DL} (h : ¬ (d.wh = 1 ∧ d.o = (m.length : Int) + 1)) (h2 : ¬ (1 ≤ d.o ∧ d.o < (m.length : Int) + 1)) : takeL m d = none := by
  unfold takeL
  rw [if_neg h, if_neg h2]
theorem takeL_in {m : List SH} {d : DL} {j : Nat} {s : SH} (h : ¬ (d.wh = 1 ∧ d.o = (m.length : Int) + 1)) (ho : d.o = (j : Int) + 1) (hs : m[j]? = some s) : takeL m d = (take1 s d).map (fun t => m.set j t) := by
  have hj := (List.getElem?_eq_some_iff.1 hs).1
  unfold takeL
  rw [if_neg h, if_pos (by omega)]
  have e : d.o.toNat - 1 = j := by omega
  rw [e, hs]
  rfl
theorem core_draft {w X : World} {E : List Nat} {M : Nat} {v : Value} {a : Ob} {ds : List DB} {j : Nat} {p : DB} (h : Sy w X E (a :: boxO M [v] :: core w v ds)) (hp : ds[j]? = some p) : (a :: boxO M [v] :: core w v ds)[3 + j]? = some (drO w p.b p.k p.d) := by
  rw [show 3 + j = j + 1 + 1 + 1 by omega]
  simp [core, dbO, hp]
theorem core_set {w : World} {M : Nat} {v : Value} {a : Ob} {ds : List DB} {j k : Nat} {p : DB} {d : DR} (hp : ds[j]? = some p) : (a :: boxO M [v] :: core w v ds).set (3 + j) (drO w p.b k d) = a :: boxO M [v] :: core w v (ds.set j ⟨p.b, k, d⟩) := by
  obtain ⟨hj, rfl⟩ := List.getElem?_eq_some_iff.1 hp
  rw [show 3 + j = j + 1 + 1 + 1 by omega]
  simp only [core, List.set_cons_succ]
  have e1 : (ds.map (dbO w)).set j (drO w ds[j].b k d) = (ds.set j ⟨ds[j].b, k, d⟩).map (dbO w) := by rw [List.map_set]; rfl
  have e2 : (ds.set j ⟨ds[j].b, k, d⟩).map ptr = ds.map ptr := by
    rw [List.map_set]
    apply List.ext_getElem?
    intro i
    rw [List.getElem?_set]
    split
    · rename_i e
      subst e
      simp [hj, ptr]
    · rfl
  rw [e1]
  unfold rowD
  rw [e2, List.length_set]
theorem abs_set (ds : List DB) (j : Nat) (p : DB) : absL (ds.set j p) = (absL ds).set j p.d.abs := by simp [absL, List.map_set]
theorem map_flat : ∀ ds : List DB, ds.map ptr = ds.flatMap (fun p => [ptr p])
  | [] => rfl
  | a :: l => by rw [List.map_cons, List.flatMap_cons, map_flat l]; rfl
theorem ptr_at {w X : World} {v : Value} {ds : List DB} {j : Nat} {p : DB} (h : X.ownsRow w.heap.size 60 1 v ds.length (ds.map ptr)) (hp : ds[j]? = some p) : ∃ g c, v = .slice (some ⟨g, 0, none⟩) ds.length c ∧ X.cell? ⟨g, 0 + j * 1, none⟩ = some (.pointer (some ⟨p.b, 0, none⟩)) := by
  obtain ⟨hj, rfl⟩ := List.getElem?_eq_some_iff.1 hp
  have h' : X.ownsRow w.heap.size 60 1 v ds.length (ds.flatMap (fun p => [ptr p])) := by
    rwa [← map_flat ds]
  obtain ⟨g, c, h1, _, _, h4⟩ := own_row (f := fun p => [ptr p]) (k := 1) (fun _ => rfl) h' rfl j hj
  exact ⟨g, c, h1, by simpa [ptr] using h4 0 _ rfl⟩
theorem ex_geI {o : Oper} {a : Act} {w : World} {x y : Operand} {n m : Int} {r : Bool} (ho : o.op = .binOp .geq 3 x y 3) (hx : a.eval x = .int .i64 n) (hc : a.eval y = .int .i64 m) (h : decide (m ≤ n) = r) : (execOp a.eval o).run Try.prog w = .ok (.value (.bool r)) w := by
  unfold execOp
  simp only [ho, hx, hc]
  simp [go_sem, eqGuard, h]
set_option maxHeartbeats 4000000 in
set_option maxRecDepth 100000 in
theorem take34_make (o n : Int) (y : Bool) (u : VV) (q : KK) (z : DD) (w X : World) (M kb : Nat) (v : Value) (ds : List DB) (hS : Sy w X [] (boxO M [v] :: core w v ds)) (hn : ds.length ≤ 100000) (hks : ∀ p ∈ ds, 400 ≤ p.k ∧ p.k ≤ kb) (hkb : 400 ≤ kb ∧ kb ≤ 400000) (hg : GL ⟨o, 1, n, y, u, q, z⟩) (ho : o = ((ds.length + 1 : Nat) : Int)) : Calls Try.prog 13 #[.pointer (some ⟨M, 0, none⟩), (DL.mk o 1 n y u q z).agg] X (TLPost w M kb ds.length (takeL (absL ds) ⟨o, 1, n, y, u, q, z⟩)) := by
  have HN := hide hn
  have HKS := hide hks
  have HKB := hide hkb
  have HG := hide hg
  obtain ⟨A, c, rfl⟩ := own_form (hS.get 1 rfl)
  have LL := hide hS
  clear hS hn hks hkb hg
  unfold DL.agg
  have HO := hide ho
  clear ho
  go_enter Try.func13, Try.ntmps13
  go_wp2_with (first | go_skip | ((with_reducible show wpList _ _ _ _ _ _); first | ((refine bxP 35 ((DL.cs ⟨o, 1, n, y, u, q, z⟩)) (by rfl) rfl rfl rfl (Nat.succ_pos _) (unhide LL) ?_); intro X3 B3 hE3 L3 hb3; replace LL := hide L3; clear L3 hb3 hE3; simp only [Act.put, List.setIfInBounds_toArray, List.set_cons_succ, List.set_cons_zero]) | ((refine rd (by rfl) (ex_load1 50 Try.isAgg50 rfl rfl ((unhide LL).hold 1 rfl) rfl) ?_); simp only [Act.put, List.setIfInBounds_toArray, List.set_cons_succ, List.set_cons_zero]) | ((refine rd (by rfl) (ex_lenG 50 60 Try.underlying50 rfl rfl) ?_); simp only [Act.put, List.setIfInBounds_toArray, List.set_cons_succ, List.set_cons_zero]) | ((refine rd (by rfl) (ex_addN ds.length rfl rfl rfl (by have := unhide HN; omega)) ?_); simp only [Act.put, List.setIfInBounds_toArray, List.set_cons_succ, List.set_cons_zero]) | ((refine rd (by rfl) (ex_load1 3 Try.isAgg3 rfl rfl ((unhide LL).hold 0 rfl) rfl) ?_); simp only [Act.put, List.setIfInBounds_toArray, List.set_cons_succ, List.set_cons_zero]) | ((refine rd (by rfl) (ex_eqYes rfl rfl rfl (unhide HO)) ?_); simp only [Act.put, List.setIfInBounds_toArray, List.set_cons_succ, List.set_cons_zero])))
  have HGS : Hid (GS (⟨n, u, y, []⟩ : SH)) := hide ⟨(unhide HG).1, (unhide HG).2.1, by simp, by simp⟩
  have ht0 : Sy w _ [] (boxO B3 (DL.cs ⟨o, 1, n, y, u, q, z⟩) :: boxO M [.slice A ds.length c] :: core w (.slice A ds.length c) ds) := (unhide LL).drew
  have hh0 := ht0.hold 0 rfl
  refine wp_region_held_drew (P := Try.prog) (S := fun Z => Holds Z B3 (DL.cs ⟨o, 1, n, y, u, q, z⟩)) (by kernel_rfl) hh0 (fun hS0 => ?_)
  refine gsem 0 (some 20) (.pointer (some ⟨M, 0, none⟩)) rfl (by kernel_rfl) (by kernel_rfl) (by kernel_rfl) (fun _ _ _ h => h) (by kernel_rfl) (by kernel_rfl) (fun _ _ => by kernel_rfl) hh0 ?_
  simp only [Act.put, List.setIfInBounds_toArray, List.set_cons_succ, List.set_cons_zero]
  refine gsem 1 (some 21) (.pointer (some ⟨M, 0, none⟩)) rfl (by kernel_rfl) (by kernel_rfl) (by kernel_rfl) (fun _ _ _ h => h) (by kernel_rfl) (by kernel_rfl) (fun _ _ => by kernel_rfl) hh0 ?_
  simp only [Act.put, List.setIfInBounds_toArray, List.set_cons_succ, List.set_cons_zero]
  refine gsem 2 (some 22) (.pointer (some ⟨M, 0, none⟩)) rfl (by kernel_rfl) (by kernel_rfl) (by kernel_rfl) (fun _ _ _ h => h) (by kernel_rfl) (by kernel_rfl) (fun _ _ => by kernel_rfl) hh0 ?_
  simp only [Act.put, List.setIfInBounds_toArray, List.set_cons_succ, List.set_cons_zero]
  refine gsem 4 (some 24) (.pointer (some ⟨B3, 2, none⟩)) rfl (by kernel_rfl) (by kernel_rfl) (by kernel_rfl) (fun _ _ _ h => h) (by kernel_rfl) (by kernel_rfl) (fun _ _ => by kernel_rfl) hh0 ?_
  simp only [Act.put, List.setIfInBounds_toArray, List.set_cons_succ, List.set_cons_zero]
  refine gsem 6 (some 26) (.pointer (some ⟨B3, 4, none⟩)) rfl (by kernel_rfl) (by kernel_rfl) (by kernel_rfl) (fun _ _ _ h => h) (by kernel_rfl) (by kernel_rfl) (fun _ _ => by kernel_rfl) hh0 ?_
  simp only [Act.put, List.setIfInBounds_toArray, List.set_cons_succ, List.set_cons_zero]
  refine gsem 8 (some 28) (.pointer (some ⟨B3, 3, none⟩)) rfl (by kernel_rfl) (by kernel_rfl) (by kernel_rfl) (fun _ _ _ h => h) (by kernel_rfl) (by kernel_rfl) (fun _ _ => by kernel_rfl) hh0 ?_
  simp only [Act.put, List.setIfInBounds_toArray, List.set_cons_succ, List.set_cons_zero]
  refine gsem 5 (some 25) (.int .i64 n) rfl (by kernel_rfl) (by kernel_rfl) (by kernel_rfl) (fun _ _ _ h => h) (by kernel_rfl) (by kernel_rfl) (fun X hX => ex_load1 3 Try.isAgg3 rfl rfl (hX) rfl) hh0 ?_
  simp only [Act.put, List.setIfInBounds_toArray, List.set_cons_succ, List.set_cons_zero]
  refine gsem 7 (some 27) (.agg u.cs.toArray) rfl (by kernel_rfl) (by kernel_rfl) (by kernel_rfl) (fun _ _ _ h => h) (by kernel_rfl) (by kernel_rfl) (fun X hX => ex_loadN (vs := u.cs) 28 5 rwV szV rfl rfl (hX) rfl rfl) hh0 ?_
  simp only [Act.put, List.setIfInBounds_toArray, List.set_cons_succ, List.set_cons_zero]
  refine gsem 9 (some 29) (.bool y) rfl (by kernel_rfl) (by kernel_rfl) (by kernel_rfl) (fun _ _ _ h => h) (by kernel_rfl) (by kernel_rfl) (fun X hX => ex_load1 4 Try.isAgg4 rfl rfl (hX) rfl) hh0 ?_
  simp only [Act.put, List.setIfInBounds_toArray, List.set_cons_succ, List.set_cons_zero]
  refine gsem 10 (some 30) (.agg (SH.cs (⟨n, u, y, []⟩ : SH) none 0).toArray) rfl (by kernel_rfl) (by kernel_rfl) (by kernel_rfl) (fun _ _ _ h => h) (by kernel_rfl) (by kernel_rfl) (fun X hX => ex_bSh n u y rfl rfl rfl rfl) hh0 ?_
  simp only [Act.put, List.setIfInBounds_toArray, List.set_cons_succ, List.set_cons_zero]
  refine gsem 11 (some 31) (.agg (SH.cs (⟨n, u, y, []⟩ : SH) none 0 ++ [Value.slice none 0 0, Value.map none]).toArray) rfl (by kernel_rfl) (by kernel_rfl) (by kernel_rfl) (fun _ _ _ h => h) (by kernel_rfl) (by kernel_rfl) (fun X hX => ex_bDr (⟨n, u, y, []⟩ : SH) none 0 rfl rfl) hh0 ?_
  simp only [Act.put, List.setIfInBounds_toArray, List.set_cons_succ, List.set_cons_zero]
  have ht12 := ht0.draft (w := w) ht0.fr.size (⟨n, u, y, []⟩ : SH) none 0 (fun _ _ h => by cases h) (unhide HGS)
  refine wpAnyH_ready (rs := [3, 12]) (by kernel_rfl) (by simp) (gval 3 (some 23) rfl (by kernel_rfl) (by kernel_rfl) (ex_load1 50 Try.isAgg50 rfl rfl (ht0.hold 1 rfl) rfl) (ht0.hold 0 rfl) ?_ (gval 12 (some 32) rfl (by kernel_rfl) (by kernel_rfl) (ex_box 64 (SH.cs (⟨n, u, y, []⟩ : SH) none 0 ++ [Value.slice none 0 0, Value.map none]) rfl rfl rfl) (ht12.hold 0 rfl) ?_ AllReadyH.nil))
  · simp only [Act.put, List.setIfInBounds_toArray, List.set_cons_succ, List.set_cons_zero]
    refine wpAnyH_ready (rs := [12]) (by kernel_rfl) (by simp) (gval 12 (some 32) rfl (by kernel_rfl) (by kernel_rfl) (ex_box 64 (SH.cs (⟨n, u, y, []⟩ : SH) none 0 ++ [Value.slice none 0 0, Value.map none]) rfl rfl rfl) (ht12.hold 0 rfl) ?_ AllReadyH.nil)
    simp only [Act.put, List.setIfInBounds_toArray, List.set_cons_succ, List.set_cons_zero]
    generalize hBD : (World.heap _).size = BD at ht12 ⊢
    generalize hWD : World.alloc _ _ = WD at ht12 ⊢
    clear hBD hWD
    have ht13 := (ht12.box [.pointer (some ⟨BD, 0, none⟩)] 60 (Nat.succ_pos _)).front
    refine wpAnyH_ready (rs := [13]) (by kernel_rfl) (by simp) (gval 13 (some 33) rfl (by kernel_rfl) (by kernel_rfl) (ex_buildS (cs := [.pointer (some ⟨BD, 0, none⟩)]) rfl rfl Try.underlying50 infXp (by decide) rfl rfl (by decide)) (ht13.hold 1 rfl) ?_ AllReadyH.nil)
    simp only [Act.put, List.setIfInBounds_toArray, List.set_cons_succ, List.set_cons_zero]
    refine wpAnyH_ready (rs := [14]) (by kernel_rfl) (by simp) (gappF (base := w.heap.size) (size := 1) (bytes := 8) (k := ds.length) (m := 1) (news := [.pointer (some ⟨BD, 0, none⟩)]) (xs := ds.map ptr) (v := .slice A ds.length c) 14 (some 34) rfl (by kernel_rfl) (by kernel_rfl) rfl rfl rfl Try.underlying50 infXp rfl (by decide) (ht13.get 3 rfl) (ht13.hold 0 rfl) rfl (by simp [Value.oneCell']) (by have := unhide HN; omega) (by decide) ht13.fr.size (fun X hg => ht13.hold_grown 3 1 rfl rfl (by decide) hg) ?_ AllReadyH.nil)
    intro A9 c9 X9 hO9 hg9 hF9
    simp only [Act.put, List.setIfInBounds_toArray, List.set_cons_succ, List.set_cons_zero]
    have ht14 := ht13.row 3 rfl hO9 hg9 hF9
    have hh14 := ht14.hold 1 rfl
    refine gsem 15 (some 35) (.pointer (some ⟨M, 0, none⟩)) rfl (by kernel_rfl) (by kernel_rfl) (by kernel_rfl) (fun _ _ _ h => h) (by kernel_rfl) (by kernel_rfl) (fun _ _ => by kernel_rfl) hh14 ?_
    simp only [Act.put, List.setIfInBounds_toArray, List.set_cons_succ, List.set_cons_zero]
    have ht15 := ht14.put 2 rfl 0 [.slice A9 (ds.length + 1) c9] (by simp)
    refine wpAnyH_ready (rs := [16]) (by kernel_rfl) (by simp) (gskp 16 none rfl (by kernel_rfl) (by kernel_rfl) (ex_store (t := 50) (vs := [.slice A9 (ds.length + 1) c9]) rfl rfl rfl rfl (by simp [Value.oneCell']) szXs (ht14.hold 2 rfl) (by simp)) (ht15.hold 1 rfl) ?_ AllReadyH.nil)
    simp only [Act.put, List.setIfInBounds_toArray, List.set_cons_succ, List.set_cons_zero]
    refine wpAnyH_done (by kernel_rfl) ?_ _
    try simp only [Act.put, List.setIfInBounds_toArray, List.set_cons_succ, List.set_cons_zero]
    have LN : Hid (Sy w _ [] (boxO M [.slice A9 (ds ++ [(⟨BD, 400, fresh (⟨n, u, y, []⟩ : SH) none 0⟩ : DB)]).length c9] :: core w (.slice A9 (ds ++ [(⟨BD, 400, fresh (⟨n, u, y, []⟩ : SH) none 0⟩ : DB)]).length c9) (ds ++ [⟨BD, 400, fresh (⟨n, u, y, []⟩ : SH) none 0⟩]))) := hide (by rw [core_snoc, List.length_append]; exact ht15.tail.tail)
    clear ht15 ht14 hh14 ht13 hO9 hg9 hF9 hS0
    go_wp2_with fail
    go_ret
    refine ⟨true, _, ds ++ [⟨BD, 400, fresh (⟨n, u, y, []⟩ : SH) none 0⟩], rfl, unhide LN, fun p hp => ?_, by simp, fun _ => ?_, by simp⟩
    · rcases List.mem_append.1 hp with hp | hp
      · have := (unhide HKS) p hp
        omega
      · rw [List.mem_singleton.1 hp]
        have := unhide HKB
        dsimp only
        omega
    · rw [takeL_make (by have := unhide HO; simp [absL]; omega)]
      simp [absL, fresh_abs]
  · simp only [Act.put, List.setIfInBounds_toArray, List.set_cons_succ, List.set_cons_zero]
    generalize hBD : (World.heap _).size = BD at ht12 ⊢
    generalize hWD : World.alloc _ _ = WD at ht12 ⊢
    clear hBD hWD
    have ht13 := (ht12.box [.pointer (some ⟨BD, 0, none⟩)] 60 (Nat.succ_pos _)).front
    refine wpAnyH_ready (rs := [3, 13]) (by kernel_rfl) (by simp) (gval 3 (some 23) rfl (by kernel_rfl) (by kernel_rfl) (ex_load1 50 Try.isAgg50 rfl rfl (ht12.hold 1 rfl) rfl) (ht12.hold 0 rfl) ?_ (gval 13 (some 33) rfl (by kernel_rfl) (by kernel_rfl) (ex_buildS (cs := [.pointer (some ⟨BD, 0, none⟩)]) rfl rfl Try.underlying50 infXp (by decide) rfl rfl (by decide)) (ht13.hold 1 rfl) ?_ AllReadyH.nil))
    · simp only [Act.put, List.setIfInBounds_toArray, List.set_cons_succ, List.set_cons_zero]
      refine wpAnyH_ready (rs := [13]) (by kernel_rfl) (by simp) (gval 13 (some 33) rfl (by kernel_rfl) (by kernel_rfl) (ex_buildS (cs := [.pointer (some ⟨BD, 0, none⟩)]) rfl rfl Try.underlying50 infXp (by decide) rfl rfl (by decide)) (ht13.hold 1 rfl) ?_ AllReadyH.nil)
      simp only [Act.put, List.setIfInBounds_toArray, List.set_cons_succ, List.set_cons_zero]
      refine wpAnyH_ready (rs := [14]) (by kernel_rfl) (by simp) (gappF (base := w.heap.size) (size := 1) (bytes := 8) (k := ds.length) (m := 1) (news := [.pointer (some ⟨BD, 0, none⟩)]) (xs := ds.map ptr) (v := .slice A ds.length c) 14 (some 34) rfl (by kernel_rfl) (by kernel_rfl) rfl rfl rfl Try.underlying50 infXp rfl (by decide) (ht13.get 3 rfl) (ht13.hold 0 rfl) rfl (by simp [Value.oneCell']) (by have := unhide HN; omega) (by decide) ht13.fr.size (fun X hg => ht13.hold_grown 3 1 rfl rfl (by decide) hg) ?_ AllReadyH.nil)
      intro A9 c9 X9 hO9 hg9 hF9
      simp only [Act.put, List.setIfInBounds_toArray, List.set_cons_succ, List.set_cons_zero]
      have ht14 := ht13.row 3 rfl hO9 hg9 hF9
      have hh14 := ht14.hold 1 rfl
      refine gsem 15 (some 35) (.pointer (some ⟨M, 0, none⟩)) rfl (by kernel_rfl) (by kernel_rfl) (by kernel_rfl) (fun _ _ _ h => h) (by kernel_rfl) (by kernel_rfl) (fun _ _ => by kernel_rfl) hh14 ?_
      simp only [Act.put, List.setIfInBounds_toArray, List.set_cons_succ, List.set_cons_zero]
      have ht15 := ht14.put 2 rfl 0 [.slice A9 (ds.length + 1) c9] (by simp)
      refine wpAnyH_ready (rs := [16]) (by kernel_rfl) (by simp) (gskp 16 none rfl (by kernel_rfl) (by kernel_rfl) (ex_store (t := 50) (vs := [.slice A9 (ds.length + 1) c9]) rfl rfl rfl rfl (by simp [Value.oneCell']) szXs (ht14.hold 2 rfl) (by simp)) (ht15.hold 1 rfl) ?_ AllReadyH.nil)
      simp only [Act.put, List.setIfInBounds_toArray, List.set_cons_succ, List.set_cons_zero]
      refine wpAnyH_done (by kernel_rfl) ?_ _
      try simp only [Act.put, List.setIfInBounds_toArray, List.set_cons_succ, List.set_cons_zero]
      have LN : Hid (Sy w _ [] (boxO M [.slice A9 (ds ++ [(⟨BD, 400, fresh (⟨n, u, y, []⟩ : SH) none 0⟩ : DB)]).length c9] :: core w (.slice A9 (ds ++ [(⟨BD, 400, fresh (⟨n, u, y, []⟩ : SH) none 0⟩ : DB)]).length c9) (ds ++ [⟨BD, 400, fresh (⟨n, u, y, []⟩ : SH) none 0⟩]))) := hide (by rw [core_snoc, List.length_append]; exact ht15.tail.tail)
      clear ht15 ht14 hh14 ht13 hO9 hg9 hF9 hS0
      go_wp2_with fail
      go_ret
      refine ⟨true, _, ds ++ [⟨BD, 400, fresh (⟨n, u, y, []⟩ : SH) none 0⟩], rfl, unhide LN, fun p hp => ?_, by simp, fun _ => ?_, by simp⟩
      · rcases List.mem_append.1 hp with hp | hp
        · have := (unhide HKS) p hp
          omega
        · rw [List.mem_singleton.1 hp]
          have := unhide HKB
          dsimp only
          omega
      · rw [takeL_make (by have := unhide HO; simp [absL]; omega)]
        simp [absL, fresh_abs]
    · simp only [Act.put, List.setIfInBounds_toArray, List.set_cons_succ, List.set_cons_zero]
      refine wpAnyH_ready (rs := [3]) (by kernel_rfl) (by simp) (gval 3 (some 23) rfl (by kernel_rfl) (by kernel_rfl) (ex_load1 50 Try.isAgg50 rfl rfl (ht13.hold 2 rfl) rfl) (ht13.hold 1 rfl) ?_ AllReadyH.nil)
      simp only [Act.put, List.setIfInBounds_toArray, List.set_cons_succ, List.set_cons_zero]
      refine wpAnyH_ready (rs := [14]) (by kernel_rfl) (by simp) (gappF (base := w.heap.size) (size := 1) (bytes := 8) (k := ds.length) (m := 1) (news := [.pointer (some ⟨BD, 0, none⟩)]) (xs := ds.map ptr) (v := .slice A ds.length c) 14 (some 34) rfl (by kernel_rfl) (by kernel_rfl) rfl rfl rfl Try.underlying50 infXp rfl (by decide) (ht13.get 3 rfl) (ht13.hold 0 rfl) rfl (by simp [Value.oneCell']) (by have := unhide HN; omega) (by decide) ht13.fr.size (fun X hg => ht13.hold_grown 3 1 rfl rfl (by decide) hg) ?_ AllReadyH.nil)
      intro A9 c9 X9 hO9 hg9 hF9
      simp only [Act.put, List.setIfInBounds_toArray, List.set_cons_succ, List.set_cons_zero]
      have ht14 := ht13.row 3 rfl hO9 hg9 hF9
      have hh14 := ht14.hold 1 rfl
      refine gsem 15 (some 35) (.pointer (some ⟨M, 0, none⟩)) rfl (by kernel_rfl) (by kernel_rfl) (by kernel_rfl) (fun _ _ _ h => h) (by kernel_rfl) (by kernel_rfl) (fun _ _ => by kernel_rfl) hh14 ?_
      simp only [Act.put, List.setIfInBounds_toArray, List.set_cons_succ, List.set_cons_zero]
      have ht15 := ht14.put 2 rfl 0 [.slice A9 (ds.length + 1) c9] (by simp)
      refine wpAnyH_ready (rs := [16]) (by kernel_rfl) (by simp) (gskp 16 none rfl (by kernel_rfl) (by kernel_rfl) (ex_store (t := 50) (vs := [.slice A9 (ds.length + 1) c9]) rfl rfl rfl rfl (by simp [Value.oneCell']) szXs (ht14.hold 2 rfl) (by simp)) (ht15.hold 1 rfl) ?_ AllReadyH.nil)
      simp only [Act.put, List.setIfInBounds_toArray, List.set_cons_succ, List.set_cons_zero]
      refine wpAnyH_done (by kernel_rfl) ?_ _
      try simp only [Act.put, List.setIfInBounds_toArray, List.set_cons_succ, List.set_cons_zero]
      have LN : Hid (Sy w _ [] (boxO M [.slice A9 (ds ++ [(⟨BD, 400, fresh (⟨n, u, y, []⟩ : SH) none 0⟩ : DB)]).length c9] :: core w (.slice A9 (ds ++ [(⟨BD, 400, fresh (⟨n, u, y, []⟩ : SH) none 0⟩ : DB)]).length c9) (ds ++ [⟨BD, 400, fresh (⟨n, u, y, []⟩ : SH) none 0⟩]))) := hide (by rw [core_snoc, List.length_append]; exact ht15.tail.tail)
      clear ht15 ht14 hh14 ht13 hO9 hg9 hF9 hS0
      go_wp2_with fail
      go_ret
      refine ⟨true, _, ds ++ [⟨BD, 400, fresh (⟨n, u, y, []⟩ : SH) none 0⟩], rfl, unhide LN, fun p hp => ?_, by simp, fun _ => ?_, by simp⟩
      · rcases List.mem_append.1 hp with hp | hp
        · have := (unhide HKS) p hp
          omega
        · rw [List.mem_singleton.1 hp]
          have := unhide HKB
          dsimp only
          omega
      · rw [takeL_make (by have := unhide HO; simp [absL]; omega)]
        simp [absL, fresh_abs]
set_option maxHeartbeats 4000000 in
set_option maxRecDepth 100000 in
theorem take34_one_low (o n : Int) (y : Bool) (u : VV) (q : KK) (z : DD) (w X : World) (M kb : Nat) (v : Value) (ds : List DB) (hS : Sy w X [] (boxO M [v] :: core w v ds)) (hn : ds.length ≤ 100000) (hks : ∀ p ∈ ds, 400 ≤ p.k ∧ p.k ≤ kb) (hkb : 400 ≤ kb ∧ kb ≤ 400000) (hg : GL ⟨o, 1, n, y, u, q, z⟩) (hne : o ≠ ((ds.length + 1 : Nat) : Int)) (hlo : o < 1) : Calls Try.prog 13 #[.pointer (some ⟨M, 0, none⟩), (DL.mk o 1 n y u q z).agg] X (TLPost w M kb ds.length (takeL (absL ds) ⟨o, 1, n, y, u, q, z⟩)) := by
  have HN := hide hn
  have HKS := hide hks
  have HKB := hide hkb
  have HG := hide hg
  obtain ⟨A, c, rfl⟩ := own_form (hS.get 1 rfl)
  have LL := hide hS
  clear hS hn hks hkb hg
  unfold DL.agg
  have HNE := hide hne
  clear hne
  have HGE : Hid (decide ((1 : Int) ≤ o) = false) := hide (decide_eq_false (by omega))
  have HOUT : Hid (¬ (1 ≤ o ∧ o < ((absL ds).length : Int) + 1)) := hide (by omega)
  clear hlo
  go_enter Try.func13, Try.ntmps13
  go_wp2_with (first | go_skip | ((with_reducible show wpList _ _ _ _ _ _); first | ((refine bxP 35 ((DL.cs ⟨o, 1, n, y, u, q, z⟩)) (by rfl) rfl rfl rfl (Nat.succ_pos _) (unhide LL) ?_); intro X3 B3 hE3 L3 hb3; replace LL := hide L3; clear L3 hb3 hE3; simp only [Act.put, List.setIfInBounds_toArray, List.set_cons_succ, List.set_cons_zero]) | ((refine rd (by rfl) (ex_load1 50 Try.isAgg50 rfl rfl ((unhide LL).hold 1 rfl) rfl) ?_); simp only [Act.put, List.setIfInBounds_toArray, List.set_cons_succ, List.set_cons_zero]) | ((refine rd (by rfl) (ex_lenG 50 60 Try.underlying50 rfl rfl) ?_); simp only [Act.put, List.setIfInBounds_toArray, List.set_cons_succ, List.set_cons_zero]) | ((refine rd (by rfl) (ex_addN ds.length rfl rfl rfl (by have := unhide HN; omega)) ?_); simp only [Act.put, List.setIfInBounds_toArray, List.set_cons_succ, List.set_cons_zero]) | ((refine rd (by rfl) (ex_load1 3 Try.isAgg3 rfl rfl ((unhide LL).hold 0 rfl) rfl) ?_); simp only [Act.put, List.setIfInBounds_toArray, List.set_cons_succ, List.set_cons_zero]) | ((refine rd (by rfl) (ex_eqNo rfl rfl rfl (unhide HNE)) ?_); simp only [Act.put, List.setIfInBounds_toArray, List.set_cons_succ, List.set_cons_zero])))
  have ht0 : Sy w _ [] (boxO B3 (DL.cs ⟨o, 1, n, y, u, q, z⟩) :: boxO M [.slice A ds.length c] :: core w (.slice A ds.length c) ds) := (unhide LL).drew
  have hge := unhide HGE
  have hh0 := And.intro (ht0.hold 0 rfl) trivial
  refine wp_region_held_drew (P := Try.prog) (S := fun Z => Holds Z B3 (DL.cs ⟨o, 1, n, y, u, q, z⟩) ∧ True) (by kernel_rfl) hh0 (fun hS0 => ?_)
  refine gsem 0 (some 36) (.pointer (some ⟨B3, 0, none⟩)) rfl (by kernel_rfl) (by kernel_rfl) (by kernel_rfl) (fun _ _ _ h => h) (by kernel_rfl) (by kernel_rfl) (fun _ _ => by kernel_rfl) hh0 ?_
  simp only [Act.put, List.setIfInBounds_toArray, List.set_cons_succ, List.set_cons_zero]
  refine gsem 1 (some 37) (.int .i64 o) rfl (by kernel_rfl) (by kernel_rfl) (by kernel_rfl) (fun _ _ _ h => h) (by kernel_rfl) (by kernel_rfl) (fun X hX => ex_load1 3 Try.isAgg3 rfl rfl (hX.1) rfl) hh0 ?_
  simp only [Act.put, List.setIfInBounds_toArray, List.set_cons_succ, List.set_cons_zero]
  refine gsem 2 (some 38) (.bool false) rfl (by kernel_rfl) (by kernel_rfl) (by kernel_rfl) (fun _ _ _ h => h) (by kernel_rfl) (by kernel_rfl) (fun X hX => ex_geI rfl rfl rfl hge) hh0 ?_
  simp only [Act.put, List.setIfInBounds_toArray, List.set_cons_succ, List.set_cons_zero]
  refine gsem 3 (some 39) (.bool false) rfl (by kernel_rfl) (by kernel_rfl) (by kernel_rfl) (fun _ _ _ h => h) (by kernel_rfl) (by kernel_rfl) (fun _ _ => by kernel_rfl) hh0 ?_
  simp only [Act.put, List.setIfInBounds_toArray, List.set_cons_succ, List.set_cons_zero]
  refine gskipS 4 (some 40) rfl (by kernel_rfl) (by kernel_rfl) (by kernel_rfl) (fun _ _ _ h => h) (by kernel_rfl) (by kernel_rfl) hh0 ?_
  simp only [Act.put, List.setIfInBounds_toArray, List.set_cons_succ, List.set_cons_zero]
  refine gskipS 5 (some 41) rfl (by kernel_rfl) (by kernel_rfl) (by kernel_rfl) (fun _ _ _ h => h) (by kernel_rfl) (by kernel_rfl) hh0 ?_
  simp only [Act.put, List.setIfInBounds_toArray, List.set_cons_succ, List.set_cons_zero]
  refine gskipS 6 (some 42) rfl (by kernel_rfl) (by kernel_rfl) (by kernel_rfl) (fun _ _ _ h => h) (by kernel_rfl) (by kernel_rfl) hh0 ?_
  simp only [Act.put, List.setIfInBounds_toArray, List.set_cons_succ, List.set_cons_zero]
  refine gskipS 7 (some 43) rfl (by kernel_rfl) (by kernel_rfl) (by kernel_rfl) (fun _ _ _ h => h) (by kernel_rfl) (by kernel_rfl) hh0 ?_
  simp only [Act.put, List.setIfInBounds_toArray, List.set_cons_succ, List.set_cons_zero]
  refine gsem 8 (some 44) (.bool false) rfl (by kernel_rfl) (by kernel_rfl) (by kernel_rfl) (fun _ _ _ h => h) (by kernel_rfl) (by kernel_rfl) (fun _ _ => by kernel_rfl) hh0 ?_
  simp only [Act.put, List.setIfInBounds_toArray, List.set_cons_succ, List.set_cons_zero]
  refine gsem 9 (some 45) (.bool false) rfl (by kernel_rfl) (by kernel_rfl) (by kernel_rfl) (fun _ _ _ h => h) (by kernel_rfl) (by kernel_rfl) (fun _ _ => by kernel_rfl) hh0 ?_
  simp only [Act.put, List.setIfInBounds_toArray, List.set_cons_succ, List.set_cons_zero]
  refine gskipS 10 (some 46) rfl (by kernel_rfl) (by kernel_rfl) (by kernel_rfl) (fun _ _ _ h => h) (by kernel_rfl) (by kernel_rfl) hh0 ?_
  simp only [Act.put, List.setIfInBounds_toArray, List.set_cons_succ, List.set_cons_zero]
  refine gskipS 11 (some 47) rfl (by kernel_rfl) (by kernel_rfl) (by kernel_rfl) (fun _ _ _ h => h) (by kernel_rfl) (by kernel_rfl) hh0 ?_
  simp only [Act.put, List.setIfInBounds_toArray, List.set_cons_succ, List.set_cons_zero]
  refine gskipS 12 (some 48) rfl (by kernel_rfl) (by kernel_rfl) (by kernel_rfl) (fun _ _ _ h => h) (by kernel_rfl) (by kernel_rfl) hh0 ?_
  simp only [Act.put, List.setIfInBounds_toArray, List.set_cons_succ, List.set_cons_zero]
  refine gskipS 13 (some 49) rfl (by kernel_rfl) (by kernel_rfl) (by kernel_rfl) (fun _ _ _ h => h) (by kernel_rfl) (by kernel_rfl) hh0 ?_
  simp only [Act.put, List.setIfInBounds_toArray, List.set_cons_succ, List.set_cons_zero]
  refine gskipS 14 (some 50) rfl (by kernel_rfl) (by kernel_rfl) (by kernel_rfl) (fun _ _ _ h => h) (by kernel_rfl) (by kernel_rfl) hh0 ?_
  simp only [Act.put, List.setIfInBounds_toArray, List.set_cons_succ, List.set_cons_zero]
  refine gskipS 15 (some 51) rfl (by kernel_rfl) (by kernel_rfl) (by kernel_rfl) (fun _ _ _ h => h) (by kernel_rfl) (by kernel_rfl) hh0 ?_
  simp only [Act.put, List.setIfInBounds_toArray, List.set_cons_succ, List.set_cons_zero]
  refine gskipS 16 (some 52) rfl (by kernel_rfl) (by kernel_rfl) (by kernel_rfl) (fun _ _ _ h => h) (by kernel_rfl) (by kernel_rfl) hh0 ?_
  simp only [Act.put, List.setIfInBounds_toArray, List.set_cons_succ, List.set_cons_zero]
  refine gskipS 17 (some 53) rfl (by kernel_rfl) (by kernel_rfl) (by kernel_rfl) (fun _ _ _ h => h) (by kernel_rfl) (by kernel_rfl) hh0 ?_
  simp only [Act.put, List.setIfInBounds_toArray, List.set_cons_succ, List.set_cons_zero]
  refine gskipS 18 (some 54) rfl (by kernel_rfl) (by kernel_rfl) (by kernel_rfl) (fun _ _ _ h => h) (by kernel_rfl) (by kernel_rfl) hh0 ?_
  simp only [Act.put, List.setIfInBounds_toArray, List.set_cons_succ, List.set_cons_zero]
  refine gskipS 19 (some 55) rfl (by kernel_rfl) (by kernel_rfl) (by kernel_rfl) (fun _ _ _ h => h) (by kernel_rfl) (by kernel_rfl) hh0 ?_
  simp only [Act.put, List.setIfInBounds_toArray, List.set_cons_succ, List.set_cons_zero]
  refine gsem 20 (some 56) (.bool false) rfl (by kernel_rfl) (by kernel_rfl) (by kernel_rfl) (fun _ _ _ h => h) (by kernel_rfl) (by kernel_rfl) (fun _ _ => by kernel_rfl) hh0 ?_
  simp only [Act.put, List.setIfInBounds_toArray, List.set_cons_succ, List.set_cons_zero]
  refine gsem 21 (some 4) (.bool false) rfl (by kernel_rfl) (by kernel_rfl) (by kernel_rfl) (fun _ _ _ h => h) (by kernel_rfl) (by kernel_rfl) (fun _ _ => by kernel_rfl) hh0 ?_
  simp only [Act.put, List.setIfInBounds_toArray, List.set_cons_succ, List.set_cons_zero]
  refine wpAnyH_done (by kernel_rfl) ?_ _
  try simp only [Act.put, List.setIfInBounds_toArray, List.set_cons_succ, List.set_cons_zero]
  replace LL := hide ht0
  clear ht0 hh0 hS0 hge
  go_wp2_with fail
  go_ret
  exact ⟨false, _, ds, rfl, (unhide LL).tail, fun p hp => by have := (unhide HKS) p hp; omega, by omega, by simp, fun _ => takeL_out (fun h => (unhide HNE) (by have := h.2; simp [absL] at this; omega)) (unhide HOUT)⟩
set_option maxHeartbeats 4000000 in
set_option maxRecDepth 100000 in
theorem take34_one_high (o n : Int) (y : Bool) (u : VV) (q : KK) (z : DD) (w X : World) (M kb : Nat) (v : Value) (ds : List DB) (hS : Sy w X [] (boxO M [v] :: core w v ds)) (hn : ds.length ≤ 100000) (hks : ∀ p ∈ ds, 400 ≤ p.k ∧ p.k ≤ kb) (hkb : 400 ≤ kb ∧ kb ≤ 400000) (hg : GL ⟨o, 1, n, y, u, q, z⟩) (hne : o ≠ ((ds.length + 1 : Nat) : Int)) (hlo : 1 ≤ o) (hhi : ((ds.length + 1 : Nat) : Int) ≤ o) : Calls Try.prog 13 #[.pointer (some ⟨M, 0, none⟩), (DL.mk o 1 n y u q z).agg] X (TLPost w M kb ds.length (takeL (absL ds) ⟨o, 1, n, y, u, q, z⟩)) := by
  have HN := hide hn
  have HKS := hide hks
  have HKB := hide hkb
  have HG := hide hg
  obtain ⟨A, c, rfl⟩ := own_form (hS.get 1 rfl)
  have LL := hide hS
  clear hS hn hks hkb hg
  unfold DL.agg
  have HNE := hide hne
  clear hne
  have HGE : Hid (decide ((1 : Int) ≤ o) = true) := hide (decide_eq_true (by omega))
  have HLT : Hid (decide (o < ((ds.length + 1 : Nat) : Int)) = false) := hide (decide_eq_false (by omega))
  have HOUT : Hid (¬ (1 ≤ o ∧ o < ((absL ds).length : Int) + 1)) := hide (by simp [absL]; omega)
  clear hlo hhi
  go_enter Try.func13, Try.ntmps13
  go_wp2_with (first | go_skip | ((with_reducible show wpList _ _ _ _ _ _); first | ((refine bxP 35 ((DL.cs ⟨o, 1, n, y, u, q, z⟩)) (by rfl) rfl rfl rfl (Nat.succ_pos _) (unhide LL) ?_); intro X3 B3 hE3 L3 hb3; replace LL := hide L3; clear L3 hb3 hE3; simp only [Act.put, List.setIfInBounds_toArray, List.set_cons_succ, List.set_cons_zero]) | ((refine rd (by rfl) (ex_load1 50 Try.isAgg50 rfl rfl ((unhide LL).hold 1 rfl) rfl) ?_); simp only [Act.put, List.setIfInBounds_toArray, List.set_cons_succ, List.set_cons_zero]) | ((refine rd (by rfl) (ex_lenG 50 60 Try.underlying50 rfl rfl) ?_); simp only [Act.put, List.setIfInBounds_toArray, List.set_cons_succ, List.set_cons_zero]) | ((refine rd (by rfl) (ex_addN ds.length rfl rfl rfl (by have := unhide HN; omega)) ?_); simp only [Act.put, List.setIfInBounds_toArray, List.set_cons_succ, List.set_cons_zero]) | ((refine rd (by rfl) (ex_load1 3 Try.isAgg3 rfl rfl ((unhide LL).hold 0 rfl) rfl) ?_); simp only [Act.put, List.setIfInBounds_toArray, List.set_cons_succ, List.set_cons_zero]) | ((refine rd (by rfl) (ex_eqNo rfl rfl rfl (unhide HNE)) ?_); simp only [Act.put, List.setIfInBounds_toArray, List.set_cons_succ, List.set_cons_zero])))
  have ht0 : Sy w _ [] (boxO B3 (DL.cs ⟨o, 1, n, y, u, q, z⟩) :: boxO M [.slice A ds.length c] :: core w (.slice A ds.length c) ds) := (unhide LL).drew
  have hge := unhide HGE
  have hlt := unhide HLT
  have hh0 := And.intro (ht0.hold 0 rfl) trivial
  refine wp_region_held_drew (P := Try.prog) (S := fun Z => Holds Z B3 (DL.cs ⟨o, 1, n, y, u, q, z⟩) ∧ True) (by kernel_rfl) hh0 (fun hS0 => ?_)
  refine gsem 0 (some 36) (.pointer (some ⟨B3, 0, none⟩)) rfl (by kernel_rfl) (by kernel_rfl) (by kernel_rfl) (fun _ _ _ h => h) (by kernel_rfl) (by kernel_rfl) (fun _ _ => by kernel_rfl) hh0 ?_
  simp only [Act.put, List.setIfInBounds_toArray, List.set_cons_succ, List.set_cons_zero]
  refine gsem 1 (some 37) (.int .i64 o) rfl (by kernel_rfl) (by kernel_rfl) (by kernel_rfl) (fun _ _ _ h => h) (by kernel_rfl) (by kernel_rfl) (fun X hX => ex_load1 3 Try.isAgg3 rfl rfl (hX.1) rfl) hh0 ?_
  simp only [Act.put, List.setIfInBounds_toArray, List.set_cons_succ, List.set_cons_zero]
  refine gsem 2 (some 38) (.bool true) rfl (by kernel_rfl) (by kernel_rfl) (by kernel_rfl) (fun _ _ _ h => h) (by kernel_rfl) (by kernel_rfl) (fun X hX => ex_geI rfl rfl rfl hge) hh0 ?_
  simp only [Act.put, List.setIfInBounds_toArray, List.set_cons_succ, List.set_cons_zero]
  refine gsem 3 (some 39) (.bool true) rfl (by kernel_rfl) (by kernel_rfl) (by kernel_rfl) (fun _ _ _ h => h) (by kernel_rfl) (by kernel_rfl) (fun _ _ => by kernel_rfl) hh0 ?_
  simp only [Act.put, List.setIfInBounds_toArray, List.set_cons_succ, List.set_cons_zero]
  refine gsem 4 (some 40) (.pointer (some ⟨B3, 0, none⟩)) rfl (by kernel_rfl) (by kernel_rfl) (by kernel_rfl) (fun _ _ _ h => h) (by kernel_rfl) (by kernel_rfl) (fun _ _ => by kernel_rfl) hh0 ?_
  simp only [Act.put, List.setIfInBounds_toArray, List.set_cons_succ, List.set_cons_zero]
  refine gsem 5 (some 41) (.int .i64 o) rfl (by kernel_rfl) (by kernel_rfl) (by kernel_rfl) (fun _ _ _ h => h) (by kernel_rfl) (by kernel_rfl) (fun X hX => ex_load1 3 Try.isAgg3 rfl rfl (hX.1) rfl) hh0 ?_
  simp only [Act.put, List.setIfInBounds_toArray, List.set_cons_succ, List.set_cons_zero]
  refine gsem 6 (some 42) (.int .i64 ((ds.length + 1 : Nat) : Int)) rfl (by kernel_rfl) (by kernel_rfl) (by kernel_rfl) (fun _ _ _ h => h) (by kernel_rfl) (by kernel_rfl) (fun _ _ => by kernel_rfl) hh0 ?_
  simp only [Act.put, List.setIfInBounds_toArray, List.set_cons_succ, List.set_cons_zero]
  refine gsem 7 (some 43) (.bool false) rfl (by kernel_rfl) (by kernel_rfl) (by kernel_rfl) (fun _ _ _ h => h) (by kernel_rfl) (by kernel_rfl) (fun X hX => ex_ltI rfl rfl rfl hlt) hh0 ?_
  simp only [Act.put, List.setIfInBounds_toArray, List.set_cons_succ, List.set_cons_zero]
  refine gsem 8 (some 44) (.bool false) rfl (by kernel_rfl) (by kernel_rfl) (by kernel_rfl) (fun _ _ _ h => h) (by kernel_rfl) (by kernel_rfl) (fun _ _ => by kernel_rfl) hh0 ?_
  simp only [Act.put, List.setIfInBounds_toArray, List.set_cons_succ, List.set_cons_zero]
  refine gsem 9 (some 45) (.bool false) rfl (by kernel_rfl) (by kernel_rfl) (by kernel_rfl) (fun _ _ _ h => h) (by kernel_rfl) (by kernel_rfl) (fun _ _ => by kernel_rfl) hh0 ?_
  simp only [Act.put, List.setIfInBounds_toArray, List.set_cons_succ, List.set_cons_zero]
  refine gskipS 10 (some 46) rfl (by kernel_rfl) (by kernel_rfl) (by kernel_rfl) (fun _ _ _ h => h) (by kernel_rfl) (by kernel_rfl) hh0 ?_
  simp only [Act.put, List.setIfInBounds_toArray, List.set_cons_succ, List.set_cons_zero]
  refine gskipS 11 (some 47) rfl (by kernel_rfl) (by kernel_rfl) (by kernel_rfl) (fun _ _ _ h => h) (by kernel_rfl) (by kernel_rfl) hh0 ?_
  simp only [Act.put, List.setIfInBounds_toArray, List.set_cons_succ, List.set_cons_zero]
  refine gskipS 12 (some 48) rfl (by kernel_rfl) (by kernel_rfl) (by kernel_rfl) (fun _ _ _ h => h) (by kernel_rfl) (by kernel_rfl) hh0 ?_
  simp only [Act.put, List.setIfInBounds_toArray, List.set_cons_succ, List.set_cons_zero]
  refine gskipS 13 (some 49) rfl (by kernel_rfl) (by kernel_rfl) (by kernel_rfl) (fun _ _ _ h => h) (by kernel_rfl) (by kernel_rfl) hh0 ?_
  simp only [Act.put, List.setIfInBounds_toArray, List.set_cons_succ, List.set_cons_zero]
  refine gskipS 14 (some 50) rfl (by kernel_rfl) (by kernel_rfl) (by kernel_rfl) (fun _ _ _ h => h) (by kernel_rfl) (by kernel_rfl) hh0 ?_
  simp only [Act.put, List.setIfInBounds_toArray, List.set_cons_succ, List.set_cons_zero]
  refine gskipS 15 (some 51) rfl (by kernel_rfl) (by kernel_rfl) (by kernel_rfl) (fun _ _ _ h => h) (by kernel_rfl) (by kernel_rfl) hh0 ?_
  simp only [Act.put, List.setIfInBounds_toArray, List.set_cons_succ, List.set_cons_zero]
  refine gskipS 16 (some 52) rfl (by kernel_rfl) (by kernel_rfl) (by kernel_rfl) (fun _ _ _ h => h) (by kernel_rfl) (by kernel_rfl) hh0 ?_
  simp only [Act.put, List.setIfInBounds_toArray, List.set_cons_succ, List.set_cons_zero]
  refine gskipS 17 (some 53) rfl (by kernel_rfl) (by kernel_rfl) (by kernel_rfl) (fun _ _ _ h => h) (by kernel_rfl) (by kernel_rfl) hh0 ?_
  simp only [Act.put, List.setIfInBounds_toArray, List.set_cons_succ, List.set_cons_zero]
  refine gskipS 18 (some 54) rfl (by kernel_rfl) (by kernel_rfl) (by kernel_rfl) (fun _ _ _ h => h) (by kernel_rfl) (by kernel_rfl) hh0 ?_
  simp only [Act.put, List.setIfInBounds_toArray, List.set_cons_succ, List.set_cons_zero]
  refine gskipS 19 (some 55) rfl (by kernel_rfl) (by kernel_rfl) (by kernel_rfl) (fun _ _ _ h => h) (by kernel_rfl) (by kernel_rfl) hh0 ?_
  simp only [Act.put, List.setIfInBounds_toArray, List.set_cons_succ, List.set_cons_zero]
  refine gsem 20 (some 56) (.bool false) rfl (by kernel_rfl) (by kernel_rfl) (by kernel_rfl) (fun _ _ _ h => h) (by kernel_rfl) (by kernel_rfl) (fun _ _ => by kernel_rfl) hh0 ?_
  simp only [Act.put, List.setIfInBounds_toArray, List.set_cons_succ, List.set_cons_zero]
  refine gsem 21 (some 4) (.bool false) rfl (by kernel_rfl) (by kernel_rfl) (by kernel_rfl) (fun _ _ _ h => h) (by kernel_rfl) (by kernel_rfl) (fun _ _ => by kernel_rfl) hh0 ?_
  simp only [Act.put, List.setIfInBounds_toArray, List.set_cons_succ, List.set_cons_zero]
  refine wpAnyH_done (by kernel_rfl) ?_ _
  try simp only [Act.put, List.setIfInBounds_toArray, List.set_cons_succ, List.set_cons_zero]
  replace LL := hide ht0
  clear ht0 hh0 hS0 hge hlt
  go_wp2_with fail
  go_ret
  exact ⟨false, _, ds, rfl, (unhide LL).tail, fun p hp => by have := (unhide HKS) p hp; omega, by omega, by simp, fun _ => takeL_out (fun h => (unhide HNE) (by have := h.2; simp [absL] at this; omega)) (unhide HOUT)⟩
set_option maxHeartbeats 4000000 in
set_option maxRecDepth 100000 in
theorem take34_one_in (o n : Int) (y : Bool) (u : VV) (q : KK) (z : DD) (w X : World) (M kb : Nat) (v : Value) (ds : List DB) (hS : Sy w X [] (boxO M [v] :: core w v ds)) (hn : ds.length ≤ 100000) (hks : ∀ p ∈ ds, 400 ≤ p.k ∧ p.k ≤ kb) (hkb : 400 ≤ kb ∧ kb ≤ 400000) (hg : GL ⟨o, 1, n, y, u, q, z⟩) (hne : o ≠ ((ds.length + 1 : Nat) : Int)) (j : Nat) (p : DB) (hoj : o = ((j + 1 : Nat) : Int)) (hp : ds[j]? = some p) : Calls Try.prog 13 #[.pointer (some ⟨M, 0, none⟩), (DL.mk o 1 n y u q z).agg] X (TLPost w M kb ds.length (takeL (absL ds) ⟨o, 1, n, y, u, q, z⟩)) := by
  subst hoj
  have HN := hide hn
  have HKS := hide hks
  have HKB := hide hkb
  have HG := hide hg
  obtain ⟨g, c, rfl, hpt⟩ := ptr_at (hS.get 1 rfl) hp
  have LL := hide hS
  clear hS hpt hn hks hkb hg
  unfold DL.agg
  have HNE := hide hne
  clear hne
  have hjl := (List.getElem?_eq_some_iff.1 hp).1
  have HGE : Hid (decide ((1 : Int) ≤ ((j + 1 : Nat) : Int)) = true) := hide (decide_eq_true (by omega))
  have HLT : Hid (decide (((j + 1 : Nat) : Int) < ((ds.length + 1 : Nat) : Int)) = true) := hide (decide_eq_true (by omega))
  have HJL := hide hjl
  have HP := hide hp
  clear hjl hp
  go_enter Try.func13, Try.ntmps13
  go_wp2_with (first | go_skip | ((with_reducible show wpList _ _ _ _ _ _); first | ((refine bxP 35 ((DL.cs ⟨((j + 1 : Nat) : Int), 1, n, y, u, q, z⟩)) (by rfl) rfl rfl rfl (Nat.succ_pos _) (unhide LL) ?_); intro X3 B3 hE3 L3 hb3; replace LL := hide L3; clear L3 hb3 hE3; simp only [Act.put, List.setIfInBounds_toArray, List.set_cons_succ, List.set_cons_zero]) | ((refine rd (by rfl) (ex_load1 50 Try.isAgg50 rfl rfl ((unhide LL).hold 1 rfl) rfl) ?_); simp only [Act.put, List.setIfInBounds_toArray, List.set_cons_succ, List.set_cons_zero]) | ((refine rd (by rfl) (ex_lenG 50 60 Try.underlying50 rfl rfl) ?_); simp only [Act.put, List.setIfInBounds_toArray, List.set_cons_succ, List.set_cons_zero]) | ((refine rd (by rfl) (ex_addN ds.length rfl rfl rfl (by have := unhide HN; omega)) ?_); simp only [Act.put, List.setIfInBounds_toArray, List.set_cons_succ, List.set_cons_zero]) | ((refine rd (by rfl) (ex_load1 3 Try.isAgg3 rfl rfl ((unhide LL).hold 0 rfl) rfl) ?_); simp only [Act.put, List.setIfInBounds_toArray, List.set_cons_succ, List.set_cons_zero]) | ((refine rd (by rfl) (ex_eqNo rfl rfl rfl (unhide HNE)) ?_); simp only [Act.put, List.setIfInBounds_toArray, List.set_cons_succ, List.set_cons_zero])))
  have ht0 : Sy w _ [] (boxO B3 (DL.cs ⟨((j + 1 : Nat) : Int), 1, n, y, u, q, z⟩) :: boxO M [.slice (some ⟨g, 0, none⟩) ds.length c] :: core w (.slice (some ⟨g, 0, none⟩) ds.length c) ds) := (unhide LL).drew
  have hge := unhide HGE
  have hlt := unhide HLT
  have hjl := unhide HJL
  have hp := unhide HP
  obtain ⟨g', c', hv', hcell⟩ := ptr_at (ht0.get 2 rfl) hp
  cases hv'
  have hh0 := And.intro (ht0.hold 0 rfl) (And.intro (ht0.hold 1 rfl) hcell)
  have hset : ∀ (k : Nat) (d : DR), (ds.set j ⟨p.b, k, d⟩)[j]? = some ⟨p.b, k, d⟩ := fun k d => List.getElem?_set_self hjl
  have htk := fun (Z : World) (hZ : Sy w Z [] (boxO B3 (DL.cs ⟨((j + 1 : Nat) : Int), 1, n, y, u, q, z⟩) :: boxO M [.slice (some ⟨g, 0, none⟩) ds.length c] :: core w (.slice (some ⟨g, 0, none⟩) ds.length c) ds)) => take_any ⟨((j + 1 : Nat) : Int), 1, n, y, u, q, z⟩ p.d p.b p.k w Z hZ.fr (hZ.get (3 + j) (core_draft hZ hp)) (((unhide HKS) p (List.mem_of_getElem? hp)).1) (Nat.le_trans ((unhide HKS) p (List.mem_of_getElem? hp)).2 (by have := unhide HKB; omega)) (unhide HG)
  unfold DL.agg at htk
  refine wp_region_held_drew (P := Try.prog) (S := fun Z => Holds Z B3 (DL.cs ⟨((j + 1 : Nat) : Int), 1, n, y, u, q, z⟩) ∧ Holds Z M [.slice (some ⟨g, 0, none⟩) ds.length c] ∧ Z.cell? ⟨g, 0 + j * 1, none⟩ = some (.pointer (some ⟨p.b, 0, none⟩))) (by kernel_rfl) hh0 (fun hS0 => ?_)
  refine gsem 0 (some 36) (.pointer (some ⟨B3, 0, none⟩)) rfl (by kernel_rfl) (by kernel_rfl) (by kernel_rfl) (fun _ _ _ h => h) (by kernel_rfl) (by kernel_rfl) (fun _ _ => by kernel_rfl) hh0 ?_
  simp only [Act.put, List.setIfInBounds_toArray, List.set_cons_succ, List.set_cons_zero]
  refine gsem 1 (some 37) (.int .i64 ((j + 1 : Nat) : Int)) rfl (by kernel_rfl) (by kernel_rfl) (by kernel_rfl) (fun _ _ _ h => h) (by kernel_rfl) (by kernel_rfl) (fun X hX => ex_load1 3 Try.isAgg3 rfl rfl (hX.1) rfl) hh0 ?_
  simp only [Act.put, List.setIfInBounds_toArray, List.set_cons_succ, List.set_cons_zero]
  refine gsem 2 (some 38) (.bool true) rfl (by kernel_rfl) (by kernel_rfl) (by kernel_rfl) (fun _ _ _ h => h) (by kernel_rfl) (by kernel_rfl) (fun X hX => ex_geI rfl rfl rfl hge) hh0 ?_
  simp only [Act.put, List.setIfInBounds_toArray, List.set_cons_succ, List.set_cons_zero]
  refine gsem 3 (some 39) (.bool true) rfl (by kernel_rfl) (by kernel_rfl) (by kernel_rfl) (fun _ _ _ h => h) (by kernel_rfl) (by kernel_rfl) (fun _ _ => by kernel_rfl) hh0 ?_
  simp only [Act.put, List.setIfInBounds_toArray, List.set_cons_succ, List.set_cons_zero]
  refine gsem 4 (some 40) (.pointer (some ⟨B3, 0, none⟩)) rfl (by kernel_rfl) (by kernel_rfl) (by kernel_rfl) (fun _ _ _ h => h) (by kernel_rfl) (by kernel_rfl) (fun _ _ => by kernel_rfl) hh0 ?_
  simp only [Act.put, List.setIfInBounds_toArray, List.set_cons_succ, List.set_cons_zero]
  refine gsem 5 (some 41) (.int .i64 ((j + 1 : Nat) : Int)) rfl (by kernel_rfl) (by kernel_rfl) (by kernel_rfl) (fun _ _ _ h => h) (by kernel_rfl) (by kernel_rfl) (fun X hX => ex_load1 3 Try.isAgg3 rfl rfl (hX.1) rfl) hh0 ?_
  simp only [Act.put, List.setIfInBounds_toArray, List.set_cons_succ, List.set_cons_zero]
  refine gsem 6 (some 42) (.int .i64 ((ds.length + 1 : Nat) : Int)) rfl (by kernel_rfl) (by kernel_rfl) (by kernel_rfl) (fun _ _ _ h => h) (by kernel_rfl) (by kernel_rfl) (fun _ _ => by kernel_rfl) hh0 ?_
  simp only [Act.put, List.setIfInBounds_toArray, List.set_cons_succ, List.set_cons_zero]
  refine gsem 7 (some 43) (.bool true) rfl (by kernel_rfl) (by kernel_rfl) (by kernel_rfl) (fun _ _ _ h => h) (by kernel_rfl) (by kernel_rfl) (fun X hX => ex_ltI rfl rfl rfl hlt) hh0 ?_
  simp only [Act.put, List.setIfInBounds_toArray, List.set_cons_succ, List.set_cons_zero]
  refine gsem 8 (some 44) (.bool true) rfl (by kernel_rfl) (by kernel_rfl) (by kernel_rfl) (fun _ _ _ h => h) (by kernel_rfl) (by kernel_rfl) (fun _ _ => by kernel_rfl) hh0 ?_
  simp only [Act.put, List.setIfInBounds_toArray, List.set_cons_succ, List.set_cons_zero]
  refine gsem 9 (some 45) (.bool true) rfl (by kernel_rfl) (by kernel_rfl) (by kernel_rfl) (fun _ _ _ h => h) (by kernel_rfl) (by kernel_rfl) (fun _ _ => by kernel_rfl) hh0 ?_
  simp only [Act.put, List.setIfInBounds_toArray, List.set_cons_succ, List.set_cons_zero]
  refine gsem 10 (some 46) (.pointer (some ⟨M, 0, none⟩)) rfl (by kernel_rfl) (by kernel_rfl) (by kernel_rfl) (fun _ _ _ h => h) (by kernel_rfl) (by kernel_rfl) (fun _ _ => by kernel_rfl) hh0 ?_
  simp only [Act.put, List.setIfInBounds_toArray, List.set_cons_succ, List.set_cons_zero]
  refine gsem 11 (some 47) (.pointer (some ⟨M, 0, none⟩)) rfl (by kernel_rfl) (by kernel_rfl) (by kernel_rfl) (fun _ _ _ h => h) (by kernel_rfl) (by kernel_rfl) (fun _ _ => by kernel_rfl) hh0 ?_
  simp only [Act.put, List.setIfInBounds_toArray, List.set_cons_succ, List.set_cons_zero]
  refine gsem 12 (some 48) (.slice (some ⟨g, 0, none⟩) ds.length c) rfl (by kernel_rfl) (by kernel_rfl) (by kernel_rfl) (fun _ _ _ h => h) (by kernel_rfl) (by kernel_rfl) (fun X hX => ex_load1 50 Try.isAgg50 rfl rfl (hX.2.1) rfl) hh0 ?_
  simp only [Act.put, List.setIfInBounds_toArray, List.set_cons_succ, List.set_cons_zero]
  refine gsem 13 (some 49) (.pointer (some ⟨B3, 0, none⟩)) rfl (by kernel_rfl) (by kernel_rfl) (by kernel_rfl) (fun _ _ _ h => h) (by kernel_rfl) (by kernel_rfl) (fun _ _ => by kernel_rfl) hh0 ?_
  simp only [Act.put, List.setIfInBounds_toArray, List.set_cons_succ, List.set_cons_zero]
  refine gsem 14 (some 50) (.int .i64 ((j + 1 : Nat) : Int)) rfl (by kernel_rfl) (by kernel_rfl) (by kernel_rfl) (fun _ _ _ h => h) (by kernel_rfl) (by kernel_rfl) (fun X hX => ex_load1 3 Try.isAgg3 rfl rfl (hX.1) rfl) hh0 ?_
  simp only [Act.put, List.setIfInBounds_toArray, List.set_cons_succ, List.set_cons_zero]
  refine gsem 15 (some 51) (.int .i64 (j : Nat)) rfl (by kernel_rfl) (by kernel_rfl) (by kernel_rfl) (fun _ _ _ h => h) (by kernel_rfl) (by kernel_rfl) (fun X hX => ex_subN j rfl rfl rfl (by have := unhide HN; omega)) hh0 ?_
  simp only [Act.put, List.setIfInBounds_toArray, List.set_cons_succ, List.set_cons_zero]
  refine gsem 16 (some 52) (.pointer (some ⟨g, 0 + j * 1, none⟩)) rfl (by kernel_rfl) (by kernel_rfl) (by kernel_rfl) (fun _ _ _ h => h) (by kernel_rfl) (by kernel_rfl) (fun X hX => ex_indexG 50 1 j unXs idXs rfl rfl rfl hjl) hh0 ?_
  simp only [Act.put, List.setIfInBounds_toArray, List.set_cons_succ, List.set_cons_zero]
  refine gsem 17 (some 53) (.pointer (some ⟨p.b, 0, none⟩)) rfl (by kernel_rfl) (by kernel_rfl) (by kernel_rfl) (fun _ _ _ h => h) (by kernel_rfl) (by kernel_rfl) (fun X hX => ex_loadC 60 Try.isAgg60 rfl rfl hX.2.2) hh0 ?_
  simp only [Act.put, List.setIfInBounds_toArray, List.set_cons_succ, List.set_cons_zero]
  refine gsem 18 (some 54) (.agg (DL.cs ⟨((j + 1 : Nat) : Int), 1, n, y, u, q, z⟩).toArray) rfl (by kernel_rfl) (by kernel_rfl) (by kernel_rfl) (fun _ _ _ h => h) (by kernel_rfl) (by kernel_rfl) (fun X hX => ex_loadN (vs := (DL.cs ⟨((j + 1 : Nat) : Int), 1, n, y, u, q, z⟩)) 35 29 rwL szL rfl rfl (hX.1) rfl rfl) hh0 ?_
  simp only [Act.put, List.setIfInBounds_toArray, List.set_cons_succ, List.set_cons_zero]
  refine wpAnyH_ready (rs := [19]) (by kernel_rfl) (by simp) (gcallR 19 (some 55) rfl (by kernel_rfl) (by kernel_rfl) (by kernel_rfl) (htk _ ht0) ?_ AllReadyH.nil)
  rintro e Y9 ⟨b, d', rfl, hDP, hT, hFa⟩
  have ht9 := ht0.set (3 + j) (core_draft ht0 hp) (drO_ok _ _ _ _) hDP.di hDP.fr hDP.new
  rw [core_set hp] at ht9
  have hh9 := And.intro (ht9.hold 0 rfl) (And.intro (ht9.hold 1 rfl) (by have := (ptr_at (p := ⟨p.b, p.k + 1, d'⟩) (by simpa [rowO, rowD] using ht9.get 2 rfl) (hset _ _)); obtain ⟨g', c', e, h5⟩ := this; have e' : g' = g := (Option.some.inj (congrArg Value.ownBlock e)).symm; rw [e'] at h5; exact h5))
  refine ⟨_, rfl, hh9, ?_⟩
  simp only [Act.put, List.setIfInBounds_toArray, List.set_cons_succ, List.set_cons_zero]
  refine gsem 20 (some 56) (.bool b) rfl (by kernel_rfl) (by kernel_rfl) (by kernel_rfl) (fun _ _ _ h => h) (by kernel_rfl) (by kernel_rfl) (fun X hX => by kernel_rfl) hh9 ?_
  simp only [Act.put, List.setIfInBounds_toArray, List.set_cons_succ, List.set_cons_zero]
  refine gsem 21 (some 4) (.bool b) rfl (by kernel_rfl) (by kernel_rfl) (by kernel_rfl) (fun _ _ _ h => h) (by kernel_rfl) (by kernel_rfl) (fun _ _ => by kernel_rfl) hh9 ?_
  simp only [Act.put, List.setIfInBounds_toArray, List.set_cons_succ, List.set_cons_zero]
  refine wpAnyH_done (by kernel_rfl) ?_ _
  try simp only [Act.put, List.setIfInBounds_toArray, List.set_cons_succ, List.set_cons_zero]
  have HT := hide hT
  have HFA := hide hFa
  replace LL := hide ht9
  clear ht0 hh0 hS0 hge hlt ht9 hh9 hDP hT hFa htk
  go_wp2_with fail
  go_ret
  have hin := takeL_in (m := absL ds) (d := ⟨((j + 1 : Nat) : Int), 1, n, y, u, q, z⟩) (fun h => (unhide HNE) (by have := h.2; simp [absL] at this; omega)) (by simp) (show (absL ds)[j]? = some p.d.abs by simp [absL, unhide HP])
  refine ⟨b, _, ds.set j ⟨p.b, p.k + 1, d'⟩, rfl, (unhide LL).tail, fun r hr => ?_, by simp, fun hb => ?_, fun hb => ?_⟩
  · rcases List.mem_or_eq_of_mem_set hr with hr | rfl
    · have := (unhide HKS) r hr
      omega
    · have := (unhide HKS) p (List.mem_of_getElem? (unhide HP))
      dsimp only
      omega
  · rw [hin, (unhide HT) hb, abs_set]
    rfl
  · rw [hin, (unhide HFA) hb]
    rfl
set_option maxHeartbeats 4000000 in
set_option maxRecDepth 100000 in
theorem take34_other_low (o n : Int) (wh : Int) (y : Bool) (u : VV) (q : KK) (z : DD) (w X : World) (M kb : Nat) (v : Value) (ds : List DB) (hS : Sy w X [] (boxO M [v] :: core w v ds)) (hn : ds.length ≤ 100000) (hks : ∀ p ∈ ds, 400 ≤ p.k ∧ p.k ≤ kb) (hkb : 400 ≤ kb ∧ kb ≤ 400000) (hg : GL ⟨o, wh, n, y, u, q, z⟩) (hne : wh ≠ 1) (hlo : o < 1) : Calls Try.prog 13 #[.pointer (some ⟨M, 0, none⟩), (DL.mk o wh n y u q z).agg] X (TLPost w M kb ds.length (takeL (absL ds) ⟨o, wh, n, y, u, q, z⟩)) := by
  have HN := hide hn
  have HKS := hide hks
  have HKB := hide hkb
  have HG := hide hg
  obtain ⟨A, c, rfl⟩ := own_form (hS.get 1 rfl)
  have LL := hide hS
  clear hS hn hks hkb hg
  unfold DL.agg
  have HNE := hide hne
  clear hne
  have HGE : Hid (decide ((1 : Int) ≤ o) = false) := hide (decide_eq_false (by omega))
  have HOUT : Hid (¬ (1 ≤ o ∧ o < ((absL ds).length : Int) + 1)) := hide (by omega)
  clear hlo
  go_enter Try.func13, Try.ntmps13
  go_wp2_with (first | go_skip | ((with_reducible show wpList _ _ _ _ _ _); first | ((refine bxP 35 ((DL.cs ⟨o, wh, n, y, u, q, z⟩)) (by rfl) rfl rfl rfl (Nat.succ_pos _) (unhide LL) ?_); intro X3 B3 hE3 L3 hb3; replace LL := hide L3; clear L3 hb3 hE3; simp only [Act.put, List.setIfInBounds_toArray, List.set_cons_succ, List.set_cons_zero]) | ((refine rd (by rfl) (ex_load1 50 Try.isAgg50 rfl rfl ((unhide LL).hold 1 rfl) rfl) ?_); simp only [Act.put, List.setIfInBounds_toArray, List.set_cons_succ, List.set_cons_zero]) | ((refine rd (by rfl) (ex_lenG 50 60 Try.underlying50 rfl rfl) ?_); simp only [Act.put, List.setIfInBounds_toArray, List.set_cons_succ, List.set_cons_zero]) | ((refine rd (by rfl) (ex_addN ds.length rfl rfl rfl (by have := unhide HN; omega)) ?_); simp only [Act.put, List.setIfInBounds_toArray, List.set_cons_succ, List.set_cons_zero]) | ((refine rd (by rfl) (ex_load1 3 Try.isAgg3 rfl rfl ((unhide LL).hold 0 rfl) rfl) ?_); simp only [Act.put, List.setIfInBounds_toArray, List.set_cons_succ, List.set_cons_zero]) | ((refine rd (by rfl) (ex_eqNo rfl rfl rfl (unhide HNE)) ?_); simp only [Act.put, List.setIfInBounds_toArray, List.set_cons_succ, List.set_cons_zero])))
  have ht0 : Sy w _ [] (boxO B3 (DL.cs ⟨o, wh, n, y, u, q, z⟩) :: boxO M [.slice A ds.length c] :: core w (.slice A ds.length c) ds) := (unhide LL).drew
  have hge := unhide HGE
  have hh0 := And.intro (ht0.hold 0 rfl) trivial
  refine wp_region_held_drew (P := Try.prog) (S := fun Z => Holds Z B3 (DL.cs ⟨o, wh, n, y, u, q, z⟩) ∧ True) (by kernel_rfl) hh0 (fun hS0 => ?_)
  refine gsem 0 (some 36) (.pointer (some ⟨B3, 0, none⟩)) rfl (by kernel_rfl) (by kernel_rfl) (by kernel_rfl) (fun _ _ _ h => h) (by kernel_rfl) (by kernel_rfl) (fun _ _ => by kernel_rfl) hh0 ?_
  simp only [Act.put, List.setIfInBounds_toArray, List.set_cons_succ, List.set_cons_zero]
  refine gsem 1 (some 37) (.int .i64 o) rfl (by kernel_rfl) (by kernel_rfl) (by kernel_rfl) (fun _ _ _ h => h) (by kernel_rfl) (by kernel_rfl) (fun X hX => ex_load1 3 Try.isAgg3 rfl rfl (hX.1) rfl) hh0 ?_
  simp only [Act.put, List.setIfInBounds_toArray, List.set_cons_succ, List.set_cons_zero]
  refine gsem 2 (some 38) (.bool false) rfl (by kernel_rfl) (by kernel_rfl) (by kernel_rfl) (fun _ _ _ h => h) (by kernel_rfl) (by kernel_rfl) (fun X hX => ex_geI rfl rfl rfl hge) hh0 ?_
  simp only [Act.put, List.setIfInBounds_toArray, List.set_cons_succ, List.set_cons_zero]
  refine gsem 3 (some 39) (.bool false) rfl (by kernel_rfl) (by kernel_rfl) (by kernel_rfl) (fun _ _ _ h => h) (by kernel_rfl) (by kernel_rfl) (fun _ _ => by kernel_rfl) hh0 ?_
  simp only [Act.put, List.setIfInBounds_toArray, List.set_cons_succ, List.set_cons_zero]
  refine gskipS 4 (some 40) rfl (by kernel_rfl) (by kernel_rfl) (by kernel_rfl) (fun _ _ _ h => h) (by kernel_rfl) (by kernel_rfl) hh0 ?_
  simp only [Act.put, List.setIfInBounds_toArray, List.set_cons_succ, List.set_cons_zero]
  refine gskipS 5 (some 41) rfl (by kernel_rfl) (by kernel_rfl) (by kernel_rfl) (fun _ _ _ h => h) (by kernel_rfl) (by kernel_rfl) hh0 ?_
  simp only [Act.put, List.setIfInBounds_toArray, List.set_cons_succ, List.set_cons_zero]
  refine gskipS 6 (some 42) rfl (by kernel_rfl) (by kernel_rfl) (by kernel_rfl) (fun _ _ _ h => h) (by kernel_rfl) (by kernel_rfl) hh0 ?_
  simp only [Act.put, List.setIfInBounds_toArray, List.set_cons_succ, List.set_cons_zero]
  refine gskipS 7 (some 43) rfl (by kernel_rfl) (by kernel_rfl) (by kernel_rfl) (fun _ _ _ h => h) (by kernel_rfl) (by kernel_rfl) hh0 ?_
  simp only [Act.put, List.setIfInBounds_toArray, List.set_cons_succ, List.set_cons_zero]
  refine gsem 8 (some 44) (.bool false) rfl (by kernel_rfl) (by kernel_rfl) (by kernel_rfl) (fun _ _ _ h => h) (by kernel_rfl) (by kernel_rfl) (fun _ _ => by kernel_rfl) hh0 ?_
  simp only [Act.put, List.setIfInBounds_toArray, List.set_cons_succ, List.set_cons_zero]
  refine gsem 9 (some 45) (.bool false) rfl (by kernel_rfl) (by kernel_rfl) (by kernel_rfl) (fun _ _ _ h => h) (by kernel_rfl) (by kernel_rfl) (fun _ _ => by kernel_rfl) hh0 ?_
  simp only [Act.put, List.setIfInBounds_toArray, List.set_cons_succ, List.set_cons_zero]
  refine gskipS 10 (some 46) rfl (by kernel_rfl) (by kernel_rfl) (by kernel_rfl) (fun _ _ _ h => h) (by kernel_rfl) (by kernel_rfl) hh0 ?_
  simp only [Act.put, List.setIfInBounds_toArray, List.set_cons_succ, List.set_cons_zero]
  refine gskipS 11 (some 47) rfl (by kernel_rfl) (by kernel_rfl) (by kernel_rfl) (fun _ _ _ h => h) (by kernel_rfl) (by kernel_rfl) hh0 ?_
  simp only [Act.put, List.setIfInBounds_toArray, List.set_cons_succ, List.set_cons_zero]
  refine gskipS 12 (some 48) rfl (by kernel_rfl) (by kernel_rfl) (by kernel_rfl) (fun _ _ _ h => h) (by kernel_rfl) (by kernel_rfl) hh0 ?_
  simp only [Act.put, List.setIfInBounds_toArray, List.set_cons_succ, List.set_cons_zero]
  refine gskipS 13 (some 49) rfl (by kernel_rfl) (by kernel_rfl) (by kernel_rfl) (fun _ _ _ h => h) (by kernel_rfl) (by kernel_rfl) hh0 ?_
  simp only [Act.put, List.setIfInBounds_toArray, List.set_cons_succ, List.set_cons_zero]
  refine gskipS 14 (some 50) rfl (by kernel_rfl) (by kernel_rfl) (by kernel_rfl) (fun _ _ _ h => h) (by kernel_rfl) (by kernel_rfl) hh0 ?_
  simp only [Act.put, List.setIfInBounds_toArray, List.set_cons_succ, List.set_cons_zero]
  refine gskipS 15 (some 51) rfl (by kernel_rfl) (by kernel_rfl) (by kernel_rfl) (fun _ _ _ h => h) (by kernel_rfl) (by kernel_rfl) hh0 ?_
  simp only [Act.put, List.setIfInBounds_toArray, List.set_cons_succ, List.set_cons_zero]
  refine gskipS 16 (some 52) rfl (by kernel_rfl) (by kernel_rfl) (by kernel_rfl) (fun _ _ _ h => h) (by kernel_rfl) (by kernel_rfl) hh0 ?_
  simp only [Act.put, List.setIfInBounds_toArray, List.set_cons_succ, List.set_cons_zero]
  refine gskipS 17 (some 53) rfl (by kernel_rfl) (by kernel_rfl) (by kernel_rfl) (fun _ _ _ h => h) (by kernel_rfl) (by kernel_rfl) hh0 ?_
  simp only [Act.put, List.setIfInBounds_toArray, List.set_cons_succ, List.set_cons_zero]
  refine gskipS 18 (some 54) rfl (by kernel_rfl) (by kernel_rfl) (by kernel_rfl) (fun _ _ _ h => h) (by kernel_rfl) (by kernel_rfl) hh0 ?_
  simp only [Act.put, List.setIfInBounds_toArray, List.set_cons_succ, List.set_cons_zero]
  refine gskipS 19 (some 55) rfl (by kernel_rfl) (by kernel_rfl) (by kernel_rfl) (fun _ _ _ h => h) (by kernel_rfl) (by kernel_rfl) hh0 ?_
  simp only [Act.put, List.setIfInBounds_toArray, List.set_cons_succ, List.set_cons_zero]
  refine gsem 20 (some 56) (.bool false) rfl (by kernel_rfl) (by kernel_rfl) (by kernel_rfl) (fun _ _ _ h => h) (by kernel_rfl) (by kernel_rfl) (fun _ _ => by kernel_rfl) hh0 ?_
  simp only [Act.put, List.setIfInBounds_toArray, List.set_cons_succ, List.set_cons_zero]
  refine gsem 21 (some 4) (.bool false) rfl (by kernel_rfl) (by kernel_rfl) (by kernel_rfl) (fun _ _ _ h => h) (by kernel_rfl) (by kernel_rfl) (fun _ _ => by kernel_rfl) hh0 ?_
  simp only [Act.put, List.setIfInBounds_toArray, List.set_cons_succ, List.set_cons_zero]
  refine wpAnyH_done (by kernel_rfl) ?_ _
  try simp only [Act.put, List.setIfInBounds_toArray, List.set_cons_succ, List.set_cons_zero]
  replace LL := hide ht0
  clear ht0 hh0 hS0 hge
  go_wp2_with fail
  go_ret
  exact ⟨false, _, ds, rfl, (unhide LL).tail, fun p hp => by have := (unhide HKS) p hp; omega, by omega, by simp, fun _ => takeL_out (fun h => (unhide HNE) h.1) (unhide HOUT)⟩
set_option maxHeartbeats 4000000 in
set_option maxRecDepth 100000 in
theorem take34_other_high (o n : Int) (wh : Int) (y : Bool) (u : VV) (q : KK) (z : DD) (w X : World) (M kb : Nat) (v : Value) (ds : List DB) (hS : Sy w X [] (boxO M [v] :: core w v ds)) (hn : ds.length ≤ 100000) (hks : ∀ p ∈ ds, 400 ≤ p.k ∧ p.k ≤ kb) (hkb : 400 ≤ kb ∧ kb ≤ 400000) (hg : GL ⟨o, wh, n, y, u, q, z⟩) (hne : wh ≠ 1) (hlo : 1 ≤ o) (hhi : ((ds.length + 1 : Nat) : Int) ≤ o) : Calls Try.prog 13 #[.pointer (some ⟨M, 0, none⟩), (DL.mk o wh n y u q z).agg] X (TLPost w M kb ds.length (takeL (absL ds) ⟨o, wh, n, y, u, q, z⟩)) := by
  have HN := hide hn
  have HKS := hide hks
  have HKB := hide hkb
  have HG := hide hg
  obtain ⟨A, c, rfl⟩ := own_form (hS.get 1 rfl)
  have LL := hide hS
  clear hS hn hks hkb hg
  unfold DL.agg
  have HNE := hide hne
  clear hne
  have HGE : Hid (decide ((1 : Int) ≤ o) = true) := hide (decide_eq_true (by omega))
  have HLT : Hid (decide (o < ((ds.length + 1 : Nat) : Int)) = false) := hide (decide_eq_false (by omega))
  have HOUT : Hid (¬ (1 ≤ o ∧ o < ((absL ds).length : Int) + 1)) := hide (by simp [absL]; omega)
  clear hlo hhi
  go_enter Try.func13, Try.ntmps13
  go_wp2_with (first | go_skip | ((with_reducible show wpList _ _ _ _ _ _); first | ((refine bxP 35 ((DL.cs ⟨o, wh, n, y, u, q, z⟩)) (by rfl) rfl rfl rfl (Nat.succ_pos _) (unhide LL) ?_); intro X3 B3 hE3 L3 hb3; replace LL := hide L3; clear L3 hb3 hE3; simp only [Act.put, List.setIfInBounds_toArray, List.set_cons_succ, List.set_cons_zero]) | ((refine rd (by rfl) (ex_load1 50 Try.isAgg50 rfl rfl ((unhide LL).hold 1 rfl) rfl) ?_); simp only [Act.put, List.setIfInBounds_toArray, List.set_cons_succ, List.set_cons_zero]) | ((refine rd (by rfl) (ex_lenG 50 60 Try.underlying50 rfl rfl) ?_); simp only [Act.put, List.setIfInBounds_toArray, List.set_cons_succ, List.set_cons_zero]) | ((refine rd (by rfl) (ex_addN ds.length rfl rfl rfl (by have := unhide HN; omega)) ?_); simp only [Act.put, List.setIfInBounds_toArray, List.set_cons_succ, List.set_cons_zero]) | ((refine rd (by rfl) (ex_load1 3 Try.isAgg3 rfl rfl ((unhide LL).hold 0 rfl) rfl) ?_); simp only [Act.put, List.setIfInBounds_toArray, List.set_cons_succ, List.set_cons_zero]) | ((refine rd (by rfl) (ex_eqNo rfl rfl rfl (unhide HNE)) ?_); simp only [Act.put, List.setIfInBounds_toArray, List.set_cons_succ, List.set_cons_zero])))
  have ht0 : Sy w _ [] (boxO B3 (DL.cs ⟨o, wh, n, y, u, q, z⟩) :: boxO M [.slice A ds.length c] :: core w (.slice A ds.length c) ds) := (unhide LL).drew
  have hge := unhide HGE
  have hlt := unhide HLT
  have hh0 := And.intro (ht0.hold 0 rfl) trivial
  refine wp_region_held_drew (P := Try.prog) (S := fun Z => Holds Z B3 (DL.cs ⟨o, wh, n, y, u, q, z⟩) ∧ True) (by kernel_rfl) hh0 (fun hS0 => ?_)
  refine gsem 0 (some 36) (.pointer (some ⟨B3, 0, none⟩)) rfl (by kernel_rfl) (by kernel_rfl) (by kernel_rfl) (fun _ _ _ h => h) (by kernel_rfl) (by kernel_rfl) (fun _ _ => by kernel_rfl) hh0 ?_
  simp only [Act.put, List.setIfInBounds_toArray, List.set_cons_succ, List.set_cons_zero]
  refine gsem 1 (some 37) (.int .i64 o) rfl (by kernel_rfl) (by kernel_rfl) (by kernel_rfl) (fun _ _ _ h => h) (by kernel_rfl) (by kernel_rfl) (fun X hX => ex_load1 3 Try.isAgg3 rfl rfl (hX.1) rfl) hh0 ?_
  simp only [Act.put, List.setIfInBounds_toArray, List.set_cons_succ, List.set_cons_zero]
  refine gsem 2 (some 38) (.bool true) rfl (by kernel_rfl) (by kernel_rfl) (by kernel_rfl) (fun _ _ _ h => h) (by kernel_rfl) (by kernel_rfl) (fun X hX => ex_geI rfl rfl rfl hge) hh0 ?_
  simp only [Act.put, List.setIfInBounds_toArray, List.set_cons_succ, List.set_cons_zero]
  refine gsem 3 (some 39) (.bool true) rfl (by kernel_rfl) (by kernel_rfl) (by kernel_rfl) (fun _ _ _ h => h) (by kernel_rfl) (by kernel_rfl) (fun _ _ => by kernel_rfl) hh0 ?_
  simp only [Act.put, List.setIfInBounds_toArray, List.set_cons_succ, List.set_cons_zero]
  refine gsem 4 (some 40) (.pointer (some ⟨B3, 0, none⟩)) rfl (by kernel_rfl) (by kernel_rfl) (by kernel_rfl) (fun _ _ _ h => h) (by kernel_rfl) (by kernel_rfl) (fun _ _ => by kernel_rfl) hh0 ?_
  simp only [Act.put, List.setIfInBounds_toArray, List.set_cons_succ, List.set_cons_zero]
  refine gsem 5 (some 41) (.int .i64 o) rfl (by kernel_rfl) (by kernel_rfl) (by kernel_rfl) (fun _ _ _ h => h) (by kernel_rfl) (by kernel_rfl) (fun X hX => ex_load1 3 Try.isAgg3 rfl rfl (hX.1) rfl) hh0 ?_
  simp only [Act.put, List.setIfInBounds_toArray, List.set_cons_succ, List.set_cons_zero]
  refine gsem 6 (some 42) (.int .i64 ((ds.length + 1 : Nat) : Int)) rfl (by kernel_rfl) (by kernel_rfl) (by kernel_rfl) (fun _ _ _ h => h) (by kernel_rfl) (by kernel_rfl) (fun _ _ => by kernel_rfl) hh0 ?_
  simp only [Act.put, List.setIfInBounds_toArray, List.set_cons_succ, List.set_cons_zero]
  refine gsem 7 (some 43) (.bool false) rfl (by kernel_rfl) (by kernel_rfl) (by kernel_rfl) (fun _ _ _ h => h) (by kernel_rfl) (by kernel_rfl) (fun X hX => ex_ltI rfl rfl rfl hlt) hh0 ?_
  simp only [Act.put, List.setIfInBounds_toArray, List.set_cons_succ, List.set_cons_zero]
  refine gsem 8 (some 44) (.bool false) rfl (by kernel_rfl) (by kernel_rfl) (by kernel_rfl) (fun _ _ _ h => h) (by kernel_rfl) (by kernel_rfl) (fun _ _ => by kernel_rfl) hh0 ?_
  simp only [Act.put, List.setIfInBounds_toArray, List.set_cons_succ, List.set_cons_zero]
  refine gsem 9 (some 45) (.bool false) rfl (by kernel_rfl) (by kernel_rfl) (by kernel_rfl) (fun _ _ _ h => h) (by kernel_rfl) (by kernel_rfl) (fun _ _ => by kernel_rfl) hh0 ?_
  simp only [Act.put, List.setIfInBounds_toArray, List.set_cons_succ, List.set_cons_zero]
  refine gskipS 10 (some 46) rfl (by kernel_rfl) (by kernel_rfl) (by kernel_rfl) (fun _ _ _ h => h) (by kernel_rfl) (by kernel_rfl) hh0 ?_
  simp only [Act.put, List.setIfInBounds_toArray, List.set_cons_succ, List.set_cons_zero]
  refine gskipS 11 (some 47) rfl (by kernel_rfl) (by kernel_rfl) (by kernel_rfl) (fun _ _ _ h => h) (by kernel_rfl) (by kernel_rfl) hh0 ?_
  simp only [Act.put, List.setIfInBounds_toArray, List.set_cons_succ, List.set_cons_zero]
  refine gskipS 12 (some 48) rfl (by kernel_rfl) (by kernel_rfl) (by kernel_rfl) (fun _ _ _ h => h) (by kernel_rfl) (by kernel_rfl) hh0 ?_
  simp only [Act.put, List.setIfInBounds_toArray, List.set_cons_succ, List.set_cons_zero]
  refine gskipS 13 (some 49) rfl (by kernel_rfl) (by kernel_rfl) (by kernel_rfl) (fun _ _ _ h => h) (by kernel_rfl) (by kernel_rfl) hh0 ?_
  simp only [Act.put, List.setIfInBounds_toArray, List.set_cons_succ, List.set_cons_zero]
  refine gskipS 14 (some 50) rfl (by kernel_rfl) (by kernel_rfl) (by kernel_rfl) (fun _ _ _ h => h) (by kernel_rfl) (by kernel_rfl) hh0 ?_
  simp only [Act.put, List.setIfInBounds_toArray, List.set_cons_succ, List.set_cons_zero]
  refine gskipS 15 (some 51) rfl (by kernel_rfl) (by kernel_rfl) (by kernel_rfl) (fun _ _ _ h => h) (by kernel_rfl) (by kernel_rfl) hh0 ?_
  simp only [Act.put, List.setIfInBounds_toArray, List.set_cons_succ, List.set_cons_zero]
  refine gskipS 16 (some 52) rfl (by kernel_rfl) (by kernel_rfl) (by kernel_rfl) (fun _ _ _ h => h) (by kernel_rfl) (by kernel_rfl) hh0 ?_
  simp only [Act.put, List.setIfInBounds_toArray, List.set_cons_succ, List.set_cons_zero]
  refine gskipS 17 (some 53) rfl (by kernel_rfl) (by kernel_rfl) (by kernel_rfl) (fun _ _ _ h => h) (by kernel_rfl) (by kernel_rfl) hh0 ?_
  simp only [Act.put, List.setIfInBounds_toArray, List.set_cons_succ, List.set_cons_zero]
  refine gskipS 18 (some 54) rfl (by kernel_rfl) (by kernel_rfl) (by kernel_rfl) (fun _ _ _ h => h) (by kernel_rfl) (by kernel_rfl) hh0 ?_
  simp only [Act.put, List.setIfInBounds_toArray, List.set_cons_succ, List.set_cons_zero]
  refine gskipS 19 (some 55) rfl (by kernel_rfl) (by kernel_rfl) (by kernel_rfl) (fun _ _ _ h => h) (by kernel_rfl) (by kernel_rfl) hh0 ?_
  simp only [Act.put, List.setIfInBounds_toArray, List.set_cons_succ, List.set_cons_zero]
  refine gsem 20 (some 56) (.bool false) rfl (by kernel_rfl) (by kernel_rfl) (by kernel_rfl) (fun _ _ _ h => h) (by kernel_rfl) (by kernel_rfl) (fun _ _ => by kernel_rfl) hh0 ?_
  simp only [Act.put, List.setIfInBounds_toArray, List.set_cons_succ, List.set_cons_zero]
  refine gsem 21 (some 4) (.bool false) rfl (by kernel_rfl) (by kernel_rfl) (by kernel_rfl) (fun _ _ _ h => h) (by kernel_rfl) (by kernel_rfl) (fun _ _ => by kernel_rfl) hh0 ?_
  simp only [Act.put, List.setIfInBounds_toArray, List.set_cons_succ, List.set_cons_zero]
  refine wpAnyH_done (by kernel_rfl) ?_ _
  try simp only [Act.put, List.setIfInBounds_toArray, List.set_cons_succ, List.set_cons_zero]
  replace LL := hide ht0
  clear ht0 hh0 hS0 hge hlt
  go_wp2_with fail
  go_ret
  exact ⟨false, _, ds, rfl, (unhide LL).tail, fun p hp => by have := (unhide HKS) p hp; omega, by omega, by simp, fun _ => takeL_out (fun h => (unhide HNE) h.1) (unhide HOUT)⟩
set_option maxHeartbeats 4000000 in
set_option maxRecDepth 100000 in
theorem take34_other_in (o n : Int) (wh : Int) (y : Bool) (u : VV) (q : KK) (z : DD) (w X : World) (M kb : Nat) (v : Value) (ds : List DB) (hS : Sy w X [] (boxO M [v] :: core w v ds)) (hn : ds.length ≤ 100000) (hks : ∀ p ∈ ds, 400 ≤ p.k ∧ p.k ≤ kb) (hkb : 400 ≤ kb ∧ kb ≤ 400000) (hg : GL ⟨o, wh, n, y, u, q, z⟩) (hne : wh ≠ 1) (j : Nat) (p : DB) (hoj : o = ((j + 1 : Nat) : Int)) (hp : ds[j]? = some p) : Calls Try.prog 13 #[.pointer (some ⟨M, 0, none⟩), (DL.mk o wh n y u q z).agg] X (TLPost w M kb ds.length (takeL (absL ds) ⟨o, wh, n, y, u, q, z⟩)) := by
  subst hoj
  have HN := hide hn
  have HKS := hide hks
  have HKB := hide hkb
  have HG := hide hg
  obtain ⟨g, c, rfl, hpt⟩ := ptr_at (hS.get 1 rfl) hp
  have LL := hide hS
  clear hS hpt hn hks hkb hg
  unfold DL.agg
  have HNE := hide hne
  clear hne
  have hjl := (List.getElem?_eq_some_iff.1 hp).1
  have HGE : Hid (decide ((1 : Int) ≤ ((j + 1 : Nat) : Int)) = true) := hide (decide_eq_true (by omega))
  have HLT : Hid (decide (((j + 1 : Nat) : Int) < ((ds.length + 1 : Nat) : Int)) = true) := hide (decide_eq_true (by omega))
  have HJL := hide hjl
  have HP := hide hp
  clear hjl hp
  go_enter Try.func13, Try.ntmps13
  go_wp2_with (first | go_skip | ((with_reducible show wpList _ _ _ _ _ _); first | ((refine bxP 35 ((DL.cs ⟨((j + 1 : Nat) : Int), wh, n, y, u, q, z⟩)) (by rfl) rfl rfl rfl (Nat.succ_pos _) (unhide LL) ?_); intro X3 B3 hE3 L3 hb3; replace LL := hide L3; clear L3 hb3 hE3; simp only [Act.put, List.setIfInBounds_toArray, List.set_cons_succ, List.set_cons_zero]) | ((refine rd (by rfl) (ex_load1 50 Try.isAgg50 rfl rfl ((unhide LL).hold 1 rfl) rfl) ?_); simp only [Act.put, List.setIfInBounds_toArray, List.set_cons_succ, List.set_cons_zero]) | ((refine rd (by rfl) (ex_lenG 50 60 Try.underlying50 rfl rfl) ?_); simp only [Act.put, List.setIfInBounds_toArray, List.set_cons_succ, List.set_cons_zero]) | ((refine rd (by rfl) (ex_addN ds.length rfl rfl rfl (by have := unhide HN; omega)) ?_); simp only [Act.put, List.setIfInBounds_toArray, List.set_cons_succ, List.set_cons_zero]) | ((refine rd (by rfl) (ex_load1 3 Try.isAgg3 rfl rfl ((unhide LL).hold 0 rfl) rfl) ?_); simp only [Act.put, List.setIfInBounds_toArray, List.set_cons_succ, List.set_cons_zero]) | ((refine rd (by rfl) (ex_eqNo rfl rfl rfl (unhide HNE)) ?_); simp only [Act.put, List.setIfInBounds_toArray, List.set_cons_succ, List.set_cons_zero])))
  have ht0 : Sy w _ [] (boxO B3 (DL.cs ⟨((j + 1 : Nat) : Int), wh, n, y, u, q, z⟩) :: boxO M [.slice (some ⟨g, 0, none⟩) ds.length c] :: core w (.slice (some ⟨g, 0, none⟩) ds.length c) ds) := (unhide LL).drew
  have hge := unhide HGE
  have hlt := unhide HLT
  have hjl := unhide HJL
  have hp := unhide HP
  obtain ⟨g', c', hv', hcell⟩ := ptr_at (ht0.get 2 rfl) hp
  cases hv'
  have hh0 := And.intro (ht0.hold 0 rfl) (And.intro (ht0.hold 1 rfl) hcell)
  have hset : ∀ (k : Nat) (d : DR), (ds.set j ⟨p.b, k, d⟩)[j]? = some ⟨p.b, k, d⟩ := fun k d => List.getElem?_set_self hjl
  have htk := fun (Z : World) (hZ : Sy w Z [] (boxO B3 (DL.cs ⟨((j + 1 : Nat) : Int), wh, n, y, u, q, z⟩) :: boxO M [.slice (some ⟨g, 0, none⟩) ds.length c] :: core w (.slice (some ⟨g, 0, none⟩) ds.length c) ds)) => take_any ⟨((j + 1 : Nat) : Int), wh, n, y, u, q, z⟩ p.d p.b p.k w Z hZ.fr (hZ.get (3 + j) (core_draft hZ hp)) (((unhide HKS) p (List.mem_of_getElem? hp)).1) (Nat.le_trans ((unhide HKS) p (List.mem_of_getElem? hp)).2 (by have := unhide HKB; omega)) (unhide HG)
  unfold DL.agg at htk
  refine wp_region_held_drew (P := Try.prog) (S := fun Z => Holds Z B3 (DL.cs ⟨((j + 1 : Nat) : Int), wh, n, y, u, q, z⟩) ∧ Holds Z M [.slice (some ⟨g, 0, none⟩) ds.length c] ∧ Z.cell? ⟨g, 0 + j * 1, none⟩ = some (.pointer (some ⟨p.b, 0, none⟩))) (by kernel_rfl) hh0 (fun hS0 => ?_)
  refine gsem 0 (some 36) (.pointer (some ⟨B3, 0, none⟩)) rfl (by kernel_rfl) (by kernel_rfl) (by kernel_rfl) (fun _ _ _ h => h) (by kernel_rfl) (by kernel_rfl) (fun _ _ => by kernel_rfl) hh0 ?_
  simp only [Act.put, List.setIfInBounds_toArray, List.set_cons_succ, List.set_cons_zero]
  refine gsem 1 (some 37) (.int .i64 ((j + 1 : Nat) : Int)) rfl (by kernel_rfl) (by kernel_rfl) (by kernel_rfl) (fun _ _ _ h => h) (by kernel_rfl) (by kernel_rfl) (fun X hX => ex_load1 3 Try.isAgg3 rfl rfl (hX.1) rfl) hh0 ?_
  simp only [Act.put, List.setIfInBounds_toArray, List.set_cons_succ, List.set_cons_zero]
  refine gsem 2 (some 38) (.bool true) rfl (by kernel_rfl) (by kernel_rfl) (by kernel_rfl) (fun _ _ _ h => h) (by kernel_rfl) (by kernel_rfl) (fun X hX => ex_geI rfl rfl rfl hge) hh0 ?_
  simp only [Act.put, List.setIfInBounds_toArray, List.set_cons_succ, List.set_cons_zero]
  refine gsem 3 (some 39) (.bool true) rfl (by kernel_rfl) (by kernel_rfl) (by kernel_rfl) (fun _ _ _ h => h) (by kernel_rfl) (by kernel_rfl) (fun _ _ => by kernel_rfl) hh0 ?_
  simp only [Act.put, List.setIfInBounds_toArray, List.set_cons_succ, List.set_cons_zero]
  refine gsem 4 (some 40) (.pointer (some ⟨B3, 0, none⟩)) rfl (by kernel_rfl) (by kernel_rfl) (by kernel_rfl) (fun _ _ _ h => h) (by kernel_rfl) (by kernel_rfl) (fun _ _ => by kernel_rfl) hh0 ?_
  simp only [Act.put, List.setIfInBounds_toArray, List.set_cons_succ, List.set_cons_zero]
  refine gsem 5 (some 41) (.int .i64 ((j + 1 : Nat) : Int)) rfl (by kernel_rfl) (by kernel_rfl) (by kernel_rfl) (fun _ _ _ h => h) (by kernel_rfl) (by kernel_rfl) (fun X hX => ex_load1 3 Try.isAgg3 rfl rfl (hX.1) rfl) hh0 ?_
  simp only [Act.put, List.setIfInBounds_toArray, List.set_cons_succ, List.set_cons_zero]
  refine gsem 6 (some 42) (.int .i64 ((ds.length + 1 : Nat) : Int)) rfl (by kernel_rfl) (by kernel_rfl) (by kernel_rfl) (fun _ _ _ h => h) (by kernel_rfl) (by kernel_rfl) (fun _ _ => by kernel_rfl) hh0 ?_
  simp only [Act.put, List.setIfInBounds_toArray, List.set_cons_succ, List.set_cons_zero]
  refine gsem 7 (some 43) (.bool true) rfl (by kernel_rfl) (by kernel_rfl) (by kernel_rfl) (fun _ _ _ h => h) (by kernel_rfl) (by kernel_rfl) (fun X hX => ex_ltI rfl rfl rfl hlt) hh0 ?_
  simp only [Act.put, List.setIfInBounds_toArray, List.set_cons_succ, List.set_cons_zero]
  refine gsem 8 (some 44) (.bool true) rfl (by kernel_rfl) (by kernel_rfl) (by kernel_rfl) (fun _ _ _ h => h) (by kernel_rfl) (by kernel_rfl) (fun _ _ => by kernel_rfl) hh0 ?_
  simp only [Act.put, List.setIfInBounds_toArray, List.set_cons_succ, List.set_cons_zero]
  refine gsem 9 (some 45) (.bool true) rfl (by kernel_rfl) (by kernel_rfl) (by kernel_rfl) (fun _ _ _ h => h) (by kernel_rfl) (by kernel_rfl) (fun _ _ => by kernel_rfl) hh0 ?_
  simp only [Act.put, List.setIfInBounds_toArray, List.set_cons_succ, List.set_cons_zero]
  refine gsem 10 (some 46) (.pointer (some ⟨M, 0, none⟩)) rfl (by kernel_rfl) (by kernel_rfl) (by kernel_rfl) (fun _ _ _ h => h) (by kernel_rfl) (by kernel_rfl) (fun _ _ => by kernel_rfl) hh0 ?_
  simp only [Act.put, List.setIfInBounds_toArray, List.set_cons_succ, List.set_cons_zero]
  refine gsem 11 (some 47) (.pointer (some ⟨M, 0, none⟩)) rfl (by kernel_rfl) (by kernel_rfl) (by kernel_rfl) (fun _ _ _ h => h) (by kernel_rfl) (by kernel_rfl) (fun _ _ => by kernel_rfl) hh0 ?_
  simp only [Act.put, List.setIfInBounds_toArray, List.set_cons_succ, List.set_cons_zero]
  refine gsem 12 (some 48) (.slice (some ⟨g, 0, none⟩) ds.length c) rfl (by kernel_rfl) (by kernel_rfl) (by kernel_rfl) (fun _ _ _ h => h) (by kernel_rfl) (by kernel_rfl) (fun X hX => ex_load1 50 Try.isAgg50 rfl rfl (hX.2.1) rfl) hh0 ?_
  simp only [Act.put, List.setIfInBounds_toArray, List.set_cons_succ, List.set_cons_zero]
  refine gsem 13 (some 49) (.pointer (some ⟨B3, 0, none⟩)) rfl (by kernel_rfl) (by kernel_rfl) (by kernel_rfl) (fun _ _ _ h => h) (by kernel_rfl) (by kernel_rfl) (fun _ _ => by kernel_rfl) hh0 ?_
  simp only [Act.put, List.setIfInBounds_toArray, List.set_cons_succ, List.set_cons_zero]
  refine gsem 14 (some 50) (.int .i64 ((j + 1 : Nat) : Int)) rfl (by kernel_rfl) (by kernel_rfl) (by kernel_rfl) (fun _ _ _ h => h) (by kernel_rfl) (by kernel_rfl) (fun X hX => ex_load1 3 Try.isAgg3 rfl rfl (hX.1) rfl) hh0 ?_
  simp only [Act.put, List.setIfInBounds_toArray, List.set_cons_succ, List.set_cons_zero]
  refine gsem 15 (some 51) (.int .i64 (j : Nat)) rfl (by kernel_rfl) (by kernel_rfl) (by kernel_rfl) (fun _ _ _ h => h) (by kernel_rfl) (by kernel_rfl) (fun X hX => ex_subN j rfl rfl rfl (by have := unhide HN; omega)) hh0 ?_
  simp only [Act.put, List.setIfInBounds_toArray, List.set_cons_succ, List.set_cons_zero]
  refine gsem 16 (some 52) (.pointer (some ⟨g, 0 + j * 1, none⟩)) rfl (by kernel_rfl) (by kernel_rfl) (by kernel_rfl) (fun _ _ _ h => h) (by kernel_rfl) (by kernel_rfl) (fun X hX => ex_indexG 50 1 j unXs idXs rfl rfl rfl hjl) hh0 ?_
  simp only [Act.put, List.setIfInBounds_toArray, List.set_cons_succ, List.set_cons_zero]
  refine gsem 17 (some 53) (.pointer (some ⟨p.b, 0, none⟩)) rfl (by kernel_rfl) (by kernel_rfl) (by kernel_rfl) (fun _ _ _ h => h) (by kernel_rfl) (by kernel_rfl) (fun X hX => ex_loadC 60 Try.isAgg60 rfl rfl hX.2.2) hh0 ?_
  simp only [Act.put, List.setIfInBounds_toArray, List.set_cons_succ, List.set_cons_zero]
  refine gsem 18 (some 54) (.agg (DL.cs ⟨((j + 1 : Nat) : Int), wh, n, y, u, q, z⟩).toArray) rfl (by kernel_rfl) (by kernel_rfl) (by kernel_rfl) (fun _ _ _ h => h) (by kernel_rfl) (by kernel_rfl) (fun X hX => ex_loadN (vs := (DL.cs ⟨((j + 1 : Nat) : Int), wh, n, y, u, q, z⟩)) 35 29 rwL szL rfl rfl (hX.1) rfl rfl) hh0 ?_
  simp only [Act.put, List.setIfInBounds_toArray, List.set_cons_succ, List.set_cons_zero]
  refine wpAnyH_ready (rs := [19]) (by kernel_rfl) (by simp) (gcallR 19 (some 55) rfl (by kernel_rfl) (by kernel_rfl) (by kernel_rfl) (htk _ ht0) ?_ AllReadyH.nil)
  rintro e Y9 ⟨b, d', rfl, hDP, hT, hFa⟩
  have ht9 := ht0.set (3 + j) (core_draft ht0 hp) (drO_ok _ _ _ _) hDP.di hDP.fr hDP.new
  rw [core_set hp] at ht9
  have hh9 := And.intro (ht9.hold 0 rfl) (And.intro (ht9.hold 1 rfl) (by have := (ptr_at (p := ⟨p.b, p.k + 1, d'⟩) (by simpa [rowO, rowD] using ht9.get 2 rfl) (hset _ _)); obtain ⟨g', c', e, h5⟩ := this; have e' : g' = g := (Option.some.inj (congrArg Value.ownBlock e)).symm; rw [e'] at h5; exact h5))
  refine ⟨_, rfl, hh9, ?_⟩
  simp only [Act.put, List.setIfInBounds_toArray, List.set_cons_succ, List.set_cons_zero]
  refine gsem 20 (some 56) (.bool b) rfl (by kernel_rfl) (by kernel_rfl) (by kernel_rfl) (fun _ _ _ h => h) (by kernel_rfl) (by kernel_rfl) (fun X hX => by kernel_rfl) hh9 ?_
  simp only [Act.put, List.setIfInBounds_toArray, List.set_cons_succ, List.set_cons_zero]
  refine gsem 21 (some 4) (.bool b) rfl (by kernel_rfl) (by kernel_rfl) (by kernel_rfl) (fun _ _ _ h => h) (by kernel_rfl) (by kernel_rfl) (fun _ _ => by kernel_rfl) hh9 ?_
  simp only [Act.put, List.setIfInBounds_toArray, List.set_cons_succ, List.set_cons_zero]
  refine wpAnyH_done (by kernel_rfl) ?_ _
  try simp only [Act.put, List.setIfInBounds_toArray, List.set_cons_succ, List.set_cons_zero]
  have HT := hide hT
  have HFA := hide hFa
  replace LL := hide ht9
  clear ht0 hh0 hS0 hge hlt ht9 hh9 hDP hT hFa htk
  go_wp2_with fail
  go_ret
  have hin := takeL_in (m := absL ds) (d := ⟨((j + 1 : Nat) : Int), wh, n, y, u, q, z⟩) (fun h => (unhide HNE) h.1) (by simp) (show (absL ds)[j]? = some p.d.abs by simp [absL, unhide HP])
  refine ⟨b, _, ds.set j ⟨p.b, p.k + 1, d'⟩, rfl, (unhide LL).tail, fun r hr => ?_, by simp, fun hb => ?_, fun hb => ?_⟩
  · rcases List.mem_or_eq_of_mem_set hr with hr | rfl
    · have := (unhide HKS) r hr
      omega
    · have := (unhide HKS) p (List.mem_of_getElem? (unhide HP))
      dsimp only
      omega
  · rw [hin, (unhide HT) hb, abs_set]
    rfl
  · rw [hin, (unhide HFA) hb]
    rfl
theorem take34_any (dl : DL) (w X : World) (M kb : Nat) (v : Value) (ds : List DB) (hS : Sy w X [] (boxO M [v] :: core w v ds)) (hn : ds.length ≤ 100000) (hks : ∀ p ∈ ds, 400 ≤ p.k ∧ p.k ≤ kb) (hkb : 400 ≤ kb ∧ kb ≤ 400000) (hg : GL dl) : Calls Try.prog 13 #[.pointer (some ⟨M, 0, none⟩), dl.agg] X (TLPost w M kb ds.length (takeL (absL ds) dl)) := by
  obtain ⟨o, wh, n, y, u, q, z⟩ := dl
  by_cases h1 : wh = 1
  · subst h1
    by_cases h2 : o = ((ds.length + 1 : Nat) : Int)
    · exact take34_make o n y u q z w X M kb v ds hS hn hks hkb hg h2
    · rcases Int.lt_or_le o 1 with h3 | h3
      · exact take34_one_low o n y u q z w X M kb v ds hS hn hks hkb hg h2 h3
      · rcases Int.lt_or_le o ((ds.length + 1 : Nat) : Int) with h4 | h4
        · obtain ⟨j, hj⟩ : ∃ j : Nat, o = ((j + 1 : Nat) : Int) := ⟨(o - 1).toNat, by omega⟩
          exact take34_one_in o n y u q z w X M kb v ds hS hn hks hkb hg h2 j _ hj (List.getElem?_eq_getElem (by omega))
        · exact take34_one_high o n y u q z w X M kb v ds hS hn hks hkb hg h2 h3 h4
  · rcases Int.lt_or_le o 1 with h3 | h3
    · exact take34_other_low o n wh y u q z w X M kb v ds hS hn hks hkb hg h1 h3
    · rcases Int.lt_or_le o ((ds.length + 1 : Nat) : Int) with h4 | h4
      · obtain ⟨j, hj⟩ : ∃ j : Nat, o = ((j + 1 : Nat) : Int) := ⟨(o - 1).toNat, by omega⟩
        exact take34_other_in o n wh y u q z w X M kb v ds hS hn hks hkb hg h1 j _ hj (List.getElem?_eq_getElem (by omega))
      · exact take34_other_high o n wh y u q z w X M kb v ds hS hn hks hkb hg h1 h3 h4
end Go.Proofs.Ytcflglloopgieaa
