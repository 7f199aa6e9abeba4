import Derived.Test.YtpbdidnphkkenaaGreatDoorRb
set_option linter.all false
namespace Go.Proofs.YtpbdidnphkkenaaGreatDoor
set_option maxHeartbeats 1000000
section
open Go Go.Proofs Go.Maps Go.RowKit
set_option maxRecDepth 100000 in
theorem refKeys_rows (R : RT) (g cap : Nat) (w : World) (hR : R.Is w) (hl : R.es.length ≤ 1500000) (hz : ∀ x ∈ R.es, goodK x.k = true) (hv : R.lv = .slice (some ⟨g, 0, none⟩) R.es.length cap) : Calls Tryz.prog 29 #[.pointer (some ⟨R.t, 0, none⟩)] w fun e w' => ∃ v, e = .returned v ∧ OwnK w' w.heap.size v (ordK (R.es.map (·.k))) ∧ Below w.heap.size w w' := by
  have HV : Hid (Holds w R.t [.slice (some ⟨g, 0, none⟩) R.es.length cap, .int .i64 R.nx]) := hide (by have := hR.tab; unfold RT.cs at this; rw [hv] at this; exact this)
  have HE : Hid (∀ j, (hj : j < R.es.length) → w.rangeAt g (j * 21) R.es[j].cs) := hide (own_rows (f := EE.cs) (s := 21) (fun _ => rfl) (hv ▸ hR.own))
  have HG := hide (And.intro (World.ownsRow.lt hR.own g (by rw [hv]; rfl)).2 (hR.lt R.t (by simp [RT.blocks])))
  have HZ := hide hz
  clear hR hv hz
  go_enter Tryz.func29, Tryz.ntmps29
  go_wp2_with fail
  go_loopg [3, 4] R.es.length (fun gm s3 s4 wr => ∃ j : Nat, s4 = .int .i64 j ∧ j ≤ R.es.length ∧ R.es.length - j ≤ gm ∧ Hid (wr.ownsRow w.heap.size 33 2 s3 j (flatK ((R.es.take j).map (·.k)))) ∧ Hid (Below w.heap.size w wr))
  case atStart => exact ⟨0, rfl, by omega, by omega, hide ⟨rfl, .inl ⟨rfl, rfl⟩⟩, hide (Below.refl _ _)⟩
  case round =>
    obtain ⟨j, rfl, hj, hg, HO, HB⟩ := hrel
    have HV2 : Hid (Holds wr R.t [.slice (some ⟨g, 0, none⟩) R.es.length cap, .int .i64 R.nx]) := hide ((unhide HV).block ((unhide HB).block _ (unhide HG).2))
    by_cases hjl : j < R.es.length
    · have hjz : (j : Int) < R.es.length := by omega
      obtain ⟨x, hx⟩ : ∃ x, x = R.es[j] := ⟨_, rfl⟩
      have HXr : Hid (wr.rangeAt g (j * 21) x.cs) := hide (fun i v hv => (World.cell?_of_block (w := w) ((unhide HB).block g (unhide HG).1)).trans ((unhide HE) j hjl i v (by rw [← hx]; exact hv)))
      have HT : Hid (flatK ((R.es.take (j + 1)).map (·.k)) = flatK ((R.es.take j).map (·.k)) ++ x.k.cs) := hide (by
        rw [List.take_succ_eq_append_getElem hjl, List.map_append, flatK_append, ← hx]
        show _ ++ flatK [x.k] = _
        rw [flatK_one])
      clear hx
      go_wp2_with (first | go_skip | ((refine rd (by rfl) (ex_load1 46 Tryz.isAgg46 rfl rfl (unhide HV2) rfl) ?_); simp only [Act.put, nzA, nzB, nzC]) | ((refine rd (by rfl) (ex_index46 j rfl rfl rfl hjl) ?_); simp only [Act.put, nzA, nzB, nzC]) | ((refine rd (by rfl) (ex_loadR (B := g) (p := j * 21) (vs := x.k.cs) 33 2 row33x siz33 rfl rfl (range_left (unhide HXr)) rfl) ?_); simp only [Act.put, nzA, nzB, nzC]) | ((refine build_any (t := 64) (e := 33) (size := 2) (bytes := 24) (z := zeroK.agg) (cs := x.k.cs) (by rfl) rfl rfl Tryz.underlying64 info23w (by decide) rfl rfl (by decide) (Hq.nil wr []) ?_); intro w5 B5 hB5 L5 hb5; have H5 := hide L5; have Hb5 := hide hb5; clear L5 hb5; simp only [Act.put, nzA, nzB, nzC]) | ((refine append_any (v := u3) rfl rfl rfl rfl Tryz.underlying64 info23w rfl (by decide) (own_block (unhide HO) (fun gg hgg => (unhide Hb5).block gg (World.ownsRow.lt (unhide HO) gg hgg).2)) ((unhide H5).get 0 rfl) rfl (by simp [KK.cs, Value.oneCell']) (by omega) (by decide) (by have := (unhide HB).size; have := (unhide Hb5).size; omega) ?_); intro A6 c6 w6 ho6 hg6 hf6; have HO6 := hide ho6; have HB6 : Hid (Below w.heap.size w w6) := hide ((((unhide HB).trans ((unhide Hb5).mono (unhide HB).size))).grown hg6 (by have := (unhide HB).size; have := (unhide Hb5).size; omega) (fun gg hgg => (World.ownsRow.lt (unhide HO) gg hgg).1)); clear ho6 hg6 hf6; simp only [Act.put, nzA, nzB, nzC]))
      go_roundg (R.es.length - (j + 1))
      case measure => omega
      case rel => exact ⟨j + 1, by go_num, by omega, Nat.le_refl _, hide (by rw [unhide HT]; exact unhide HO6), HB6⟩
    · have hjz : ¬ (j : Int) < R.es.length := by omega
      have hje : j = R.es.length := by omega
      subst hje
      have hO2 : OwnK wr w.heap.size u3 (R.es.map (·.k)) := by
        unfold OwnK
        have := unhide HO
        rw [List.take_length] at this
        rw [List.length_map]
        exact this
      have HC := hide (refOrder11 u3 (R.es.map (·.k)) (fun k hk => by
        obtain ⟨x, hx, rfl⟩ := List.mem_map.1 hk
        exact (unhide HZ) x hx) wr hO2.reads (by rw [List.length_map]; exact hl))
      clear hO2
      go_wp2_with (first | go_skip | ((refine rd (by rfl) (ex_load1 46 Tryz.isAgg46 rfl rfl (unhide HV2) rfl) ?_); simp only [Act.put, nzA, nzB, nzC]))
      refine (unhide HC).mono ?_
      rintro _ w7 ⟨v7, rfl, hO7, hb7⟩
      have HO7 := hide hO7
      have Hb7 := hide hb7
      clear hO7 hb7
      go_wp2
      go_ret
      exact ⟨v7, rfl, (unhide HO7).mono (unhide HB).size, (unhide HB).trans ((unhide Hb7).mono (unhide HB).size)⟩
theorem gapp {md : Region.Mode} {ops : Array Oper} {Q : Exit → Act → World → Prop} {S : World → Prop} {w : World} {fuel : Nat} {listed : Array Bool} {a : Act} {o : Oper} {rs : List Nat} (i : Nat) (dst : Option Tmp) {t e : TypeId} {size bytes k m c B base : Nat} {z v : Value} {xs news : List Value} {s x : Operand} (hi0 : ops[i]? = some o) (hd : o.dst = dst) (hw : Region.wanted o (yielded ops a.tmps) = true) (ho : o.op = .call { callee := .builtin .append, args := #[s, x], argTypes := #[t, t] }) (hs : a.eval s = v) (hx : a.eval x = .slice (some ⟨B, 0, none⟩) m c)
    (ht : Tryz.prog.underlying t = some (.slice e)) (hi : (Tryz.prog.info? e).map (fun i => (i.zero, i.size, i.bytes)) = some (some z, size, bytes)) (hz : z.cells.size = size) (hsz : 0 < size) (hown : w.ownsRow base e size v k xs) (hB : Holds w B news) (hl : news.length = m * size) (h1 : ∀ u ∈ news, u.oneCell' = true)
    (hn : k + m ≤ 4000000) (hby : bytes ≤ 10000) (hbase : base ≤ w.heap.size) (hon : ∀ X, w.grownBy X v.ownBlock → S X)
    (h : ∀ A c' X, X.ownsRow base e size (.slice A (k + m) c') (k + m) (xs ++ news) → w.grownBy X v.ownBlock → wpAnyH Tryz.prog md ops Q S fuel (listed.setIfInBounds i true) (a.put dst (.slice A (k + m) c')) X) (hs2 : AllReadyH Tryz.prog md ops Q S fuel listed a w rs) : AllReadyH Tryz.prog md ops Q S fuel listed a w (i :: rs) := by
  obtain ⟨A, c', w', he, h2, h3⟩ := ex_append ho hs hx ht hi hz hsz hown hB hl h1 hn hby hbase
  exact gval i dst hi0 hd hw he (hon w' h3) (h A c' w' h2 h3) hs2
set_option maxRecDepth 100000 in
theorem refProps_rows (R : RT) (g cap : Nat) (w : World) (hR : R.Is w) (hl : R.es.length ≤ 3000000) (hv : R.lv = .slice (some ⟨g, 0, none⟩) R.es.length cap) : Calls Tryz.prog 23 #[.pointer (some ⟨R.t, 0, none⟩)] w fun e w' => ∃ v, e = .returned v ∧ w'.ownsRow w.heap.size 58 20 v R.es.length (flatP (R.es.map (fun x => (x.k, x.d)))) ∧ Below w.heap.size w w' := by
  have HV : Hid (Holds w R.t [.slice (some ⟨g, 0, none⟩) R.es.length cap, .int .i64 R.nx]) := hide (by have := hR.tab; unfold RT.cs at this; rw [hv] at this; exact this)
  have HE : Hid (∀ j, (hj : j < R.es.length) → w.rangeAt g (j * 21) R.es[j].cs) := hide (own_rows (f := EE.cs) (s := 21) (fun _ => rfl) (hv ▸ hR.own))
  have HG := hide (And.intro (World.ownsRow.lt hR.own g (by rw [hv]; rfl)).2 (hR.lt R.t (by simp [RT.blocks])))
  clear hR hv
  go_enter Tryz.func23, Tryz.ntmps23
  go_wp2_with fail
  go_loopg [3, 4] R.es.length (fun gm s3 s4 wr => ∃ j : Nat, s4 = .int .i64 j ∧ j ≤ R.es.length ∧ R.es.length - j ≤ gm ∧ Hid (wr.ownsRow w.heap.size 58 20 s3 j (flatP ((R.es.take j).map (fun x => (x.k, x.d))))) ∧ Hid (Below w.heap.size w wr))
  case atStart => exact ⟨0, rfl, by omega, by omega, hide ⟨rfl, .inl ⟨rfl, rfl⟩⟩, hide (Below.refl _ _)⟩
  case round =>
    obtain ⟨j, rfl, hj, hg, HO, HB⟩ := hrel
    have HV2 : Hid (Holds wr R.t [.slice (some ⟨g, 0, none⟩) R.es.length cap, .int .i64 R.nx]) := hide ((unhide HV).block ((unhide HB).block _ (unhide HG).2))
    by_cases hjl : j < R.es.length
    · have hjz : (j : Int) < R.es.length := by omega
      obtain ⟨x, hx⟩ : ∃ x, x = R.es[j] := ⟨_, rfl⟩
      have HXr : Hid (wr.drew.rangeAt g (j * 21) x.cs) := hide (fun i v hv => (World.cell?_of_block (w := w) ((unhide HB).block g (unhide HG).1)).trans ((unhide HE) j hjl i v (by rw [← hx]; exact hv)))
      have HT : Hid (flatP ((R.es.take (j + 1)).map (fun x => (x.k, x.d))) = flatP ((R.es.take j).map (fun x => (x.k, x.d))) ++ (x.k.cs ++ x.d.cs)) := hide (by
        rw [List.take_succ_eq_append_getElem hjl, List.map_append, flatP_append, ← hx]
        show _ ++ flatP [(x.k, x.d)] = _
        rw [flatP_one])
      have HGw : Hid (g < wr.drew.heap.size ∧ R.t < wr.drew.heap.size) := hide ⟨Nat.lt_of_lt_of_le (unhide HG).1 (unhide HB).size, Nat.lt_of_lt_of_le (unhide HG).2 (unhide HB).size⟩
      clear hx
      go_wp2_with (first | go_skip | ((refine rd (by rfl) (ex_load1 46 Tryz.isAgg46 rfl rfl (unhide HV2) rfl) ?_); simp only [Act.put, nzA, nzB, nzC]))
      refine wp_region_held_drew (P := Tryz.prog) (S := fun X => Holds X R.t [.slice (some ⟨g, 0, none⟩) R.es.length cap, .int .i64 R.nx] ∧ X.rangeAt g (j * 21) x.cs) (by kernel_rfl) ⟨(unhide HV2).block rfl, unhide HXr⟩ (fun hS0 => ?_)
      refine gsem 0 (some 14) (u3) rfl (by kernel_rfl) (by kernel_rfl) (by kernel_rfl) (fun _ _ _ h => h) (by kernel_rfl) (by kernel_rfl) (fun _ _ => by kernel_rfl) hS0 ?_
      simp only [Act.put, nzA, nzB, nzC]
      refine gsem 1 (some 15) (.pointer (some ⟨R.t, 0, none⟩)) rfl (by kernel_rfl) (by kernel_rfl) (by kernel_rfl) (fun _ _ _ h => h) (by kernel_rfl) (by kernel_rfl) (fun _ _ => by kernel_rfl) hS0 ?_
      simp only [Act.put, nzA, nzB, nzC]
      refine gsem 2 (some 16) (.pointer (some ⟨R.t, 0, none⟩)) rfl (by kernel_rfl) (by kernel_rfl) (by kernel_rfl) (fun _ _ _ h => h) (by kernel_rfl) (by kernel_rfl) (fun _ _ => by kernel_rfl) hS0 ?_
      simp only [Act.put, nzA, nzB, nzC]
      refine gsem 3 (some 17) (.pointer (some ⟨R.t, 0, none⟩)) rfl (by kernel_rfl) (by kernel_rfl) (by kernel_rfl) (fun _ _ _ h => h) (by kernel_rfl) (by kernel_rfl) (fun _ _ => by kernel_rfl) hS0 ?_
      simp only [Act.put, nzA, nzB, nzC]
      refine gsem 4 (some 18) (.slice (some ⟨g, 0, none⟩) R.es.length cap) rfl (by kernel_rfl) (by kernel_rfl) (by kernel_rfl) (fun _ _ _ h => h) (by kernel_rfl) (by kernel_rfl) (fun X hX => ex_load1 46 Tryz.isAgg46 rfl rfl (hX.1) rfl) hS0 ?_
      simp only [Act.put, nzA, nzB, nzC]
      refine gsem 5 (some 19) (.int .i64 (j : Nat)) rfl (by kernel_rfl) (by kernel_rfl) (by kernel_rfl) (fun _ _ _ h => h) (by kernel_rfl) (by kernel_rfl) (fun _ _ => by kernel_rfl) hS0 ?_
      simp only [Act.put, nzA, nzB, nzC]
      refine gsem 6 (some 20) (.pointer (some ⟨g, j * 21, none⟩)) rfl (by kernel_rfl) (by kernel_rfl) (by kernel_rfl) (fun _ _ _ h => h) (by kernel_rfl) (by kernel_rfl) (fun X hX => ex_index46 (x := .tmp 18) (ix := .tmp 19) j rfl rfl rfl hjl) hS0 ?_
      simp only [Act.put, nzA, nzB, nzC]
      refine gsem 7 (some 21) (.pointer (some ⟨g, j * 21, none⟩)) rfl (by kernel_rfl) (by kernel_rfl) (by kernel_rfl) (fun _ _ _ h => h) (by kernel_rfl) (by kernel_rfl) (fun _ _ => by kernel_rfl) hS0 ?_
      simp only [Act.put, nzA, nzB, nzC]
      refine gsem 8 (some 22) (x.k.agg) rfl (by kernel_rfl) (by kernel_rfl) (by kernel_rfl) (fun _ _ _ h => h) (by kernel_rfl) (by kernel_rfl) (fun X hX => ex_loadR (vs := x.k.cs) 33 2 row33x siz33 rfl rfl (range_left hX.2) rfl) hS0 ?_
      simp only [Act.put, nzA, nzB, nzC]
      refine gsem 9 (some 23) (.pointer (some ⟨R.t, 0, none⟩)) rfl (by kernel_rfl) (by kernel_rfl) (by kernel_rfl) (fun _ _ _ h => h) (by kernel_rfl) (by kernel_rfl) (fun _ _ => by kernel_rfl) hS0 ?_
      simp only [Act.put, nzA, nzB, nzC]
      refine gsem 10 (some 24) (.pointer (some ⟨R.t, 0, none⟩)) rfl (by kernel_rfl) (by kernel_rfl) (by kernel_rfl) (fun _ _ _ h => h) (by kernel_rfl) (by kernel_rfl) (fun _ _ => by kernel_rfl) hS0 ?_
      simp only [Act.put, nzA, nzB, nzC]
      refine gsem 11 (some 25) (.pointer (some ⟨R.t, 0, none⟩)) rfl (by kernel_rfl) (by kernel_rfl) (by kernel_rfl) (fun _ _ _ h => h) (by kernel_rfl) (by kernel_rfl) (fun _ _ => by kernel_rfl) hS0 ?_
      simp only [Act.put, nzA, nzB, nzC]
      refine gsem 12 (some 26) (.slice (some ⟨g, 0, none⟩) R.es.length cap) rfl (by kernel_rfl) (by kernel_rfl) (by kernel_rfl) (fun _ _ _ h => h) (by kernel_rfl) (by kernel_rfl) (fun X hX => ex_load1 46 Tryz.isAgg46 rfl rfl (hX.1) rfl) hS0 ?_
      simp only [Act.put, nzA, nzB, nzC]
      refine gsem 13 (some 27) (.int .i64 (j : Nat)) rfl (by kernel_rfl) (by kernel_rfl) (by kernel_rfl) (fun _ _ _ h => h) (by kernel_rfl) (by kernel_rfl) (fun _ _ => by kernel_rfl) hS0 ?_
      simp only [Act.put, nzA, nzB, nzC]
      refine gsem 14 (some 28) (.pointer (some ⟨g, j * 21, none⟩)) rfl (by kernel_rfl) (by kernel_rfl) (by kernel_rfl) (fun _ _ _ h => h) (by kernel_rfl) (by kernel_rfl) (fun X hX => ex_index46 (x := .tmp 26) (ix := .tmp 27) j rfl rfl rfl hjl) hS0 ?_
      simp only [Act.put, nzA, nzB, nzC]
      refine gsem 15 (some 29) (.pointer (some ⟨g, j * 21 + 2, none⟩)) rfl (by kernel_rfl) (by kernel_rfl) (by kernel_rfl) (fun _ _ _ h => h) (by kernel_rfl) (by kernel_rfl) (fun _ _ => by kernel_rfl) hS0 ?_
      simp only [Act.put, nzA, nzB, nzC]
      refine gsem 16 (some 30) (x.d.agg) rfl (by kernel_rfl) (by kernel_rfl) (by kernel_rfl) (fun _ _ _ h => h) (by kernel_rfl) (by kernel_rfl) (fun X hX => ex_loadR (vs := x.d.cs) 39 18 row39 siz39 rfl rfl (range_left (range_right hX.2)) rfl) hS0 ?_
      simp only [Act.put, nzA, nzB, nzC]
      refine gsem 17 (some 31) (.agg (x.k.cs ++ x.d.cs).toArray) rfl (by kernel_rfl) (by kernel_rfl) (by kernel_rfl) (fun _ _ _ h => h) (by kernel_rfl) (by kernel_rfl) (fun _ _ => by kernel_rfl) hS0 ?_
      simp only [Act.put, nzA, nzB, nzC]
      have bl := (Below.refl wr.drew.heap.size wr.drew).alloc (Nat.le_refl _) (Obj.cells (x.k.cs ++ x.d.cs).toArray 58)
      have hGw := unhide HGw
      have hS1 : Holds (wr.drew.alloc (Obj.cells (x.k.cs ++ x.d.cs).toArray 58)) R.t [.slice (some ⟨g, 0, none⟩) R.es.length cap, .int .i64 R.nx] ∧ (wr.drew.alloc (Obj.cells (x.k.cs ++ x.d.cs).toArray 58)).rangeAt g (j * 21) x.cs := ⟨hS0.1.block (bl.block _ hGw.2), fun i v hv => (World.cell?_of_block (bl.block g hGw.1)).trans (hS0.2 i v hv)⟩
      refine wpAnyH_ready (rs := [18]) (by kernel_rfl) (by simp) (gval 18 (some 32) rfl (by kernel_rfl) (by kernel_rfl) (ex_buildS (t := 61) (e := 58) (v := .agg (x.k.cs ++ x.d.cs).toArray) (cs := (x.k.cs ++ x.d.cs)) rfl rfl Tryz.underlying61 info58w (by decide) rfl rfl (by decide)) hS1 ?_ AllReadyH.nil)
      simp only [Act.put, nzA, nzB, nzC]
      refine wpAnyH_ready (rs := [19]) (by kernel_rfl) (by simp) (gapp 19 (some 33) (v := u3) (B := wr.drew.heap.size) (m := 1) (c := 1) rfl (by kernel_rfl) (by kernel_rfl) rfl rfl rfl Tryz.underlying61 info58w rfl (by decide) ((own_block (w' := wr.drew) (unhide HO) (fun _ _ => rfl)).alloc _) (Holds.new wr.drew (x.k.cs ++ x.d.cs) 58) rfl (by simp [KK.cs, DD.cs, VV.cs, Value.oneCell']) (by omega) (by decide) (by have h1 := (unhide HB).size; have h2 := bl.size; exact Nat.le_trans h1 h2) ?_ ?_ AllReadyH.nil)
      · intro X hX
        exact ⟨hS1.1.block (hX.block _ (Nat.lt_of_lt_of_le hGw.2 bl.size) (fun e => by have := (World.ownsRow.lt (unhide HO) R.t e.symm).1; have := (unhide HG).2; omega)), fun i v hv => (World.cell?_of_block (hX.block g (Nat.lt_of_lt_of_le hGw.1 bl.size) (fun e => by have := (World.ownsRow.lt (unhide HO) g e.symm).1; have := (unhide HG).1; omega))).trans (hS1.2 i v hv)⟩
      · intro A6 c6 w6 ho6 hg6
        have hS2 : Holds w6 R.t [.slice (some ⟨g, 0, none⟩) R.es.length cap, .int .i64 R.nx] ∧ w6.rangeAt g (j * 21) x.cs := ⟨hS1.1.block (hg6.block _ (Nat.lt_of_lt_of_le hGw.2 bl.size) (fun e => by have := (World.ownsRow.lt (unhide HO) R.t e.symm).1; have := (unhide HG).2; omega)), fun i v hv => (World.cell?_of_block (hg6.block g (Nat.lt_of_lt_of_le hGw.1 bl.size) (fun e => by have := (World.ownsRow.lt (unhide HO) g e.symm).1; have := (unhide HG).1; omega))).trans (hS1.2 i v hv)⟩
        have HO6 := hide ho6
        have HB6 : Hid (Below w.heap.size w w6) := hide (((unhide HB).drew.trans (bl.mono (unhide HB).size)).grown hg6 (Nat.le_trans (unhide HB).size bl.size) (fun gg hgg => (World.ownsRow.lt (unhide HO) gg hgg).1))
        clear hS0 hS1 ho6 hg6 bl hGw
        have hS0 := hS2
        clear hS2
        simp only [Act.put, nzA, nzB, nzC]
        refine gsem 20 (some 3) (.slice A6 (j + 1) c6) rfl (by kernel_rfl) (by kernel_rfl) (by kernel_rfl) (fun _ _ _ h => h) (by kernel_rfl) (by kernel_rfl) (fun _ _ => by kernel_rfl) hS0 ?_
        simp only [Act.put, nzA, nzB, nzC]
        refine wpAnyH_done (by kernel_rfl) ?_ _
        try simp only [Act.put, nzA, nzB, nzC]
        clear hS0
        go_wp2
        go_roundg (R.es.length - (j + 1))
        case measure => omega
        case rel => exact ⟨j + 1, by go_num, by omega, Nat.le_refl _, hide (by rw [unhide HT]; exact unhide HO6), HB6⟩
    · have hjz : ¬ (j : Int) < R.es.length := by omega
      have hje : j = R.es.length := by omega
      subst hje
      have HO2 : Hid (wr.ownsRow w.heap.size 58 20 u3 R.es.length (flatP (R.es.map (fun x => (x.k, x.d))))) := hide (by have := unhide HO; rw [List.take_length] at this; exact this)
      go_wp2_with (first | go_skip | ((refine rd (by rfl) (ex_load1 46 Tryz.isAgg46 rfl rfl (unhide HV2) rfl) ?_); simp only [Act.put, nzA, nzB, nzC]))
      go_ret
      exact ⟨u3, rfl, unhide HO2, unhide HB⟩
set_option maxRecDepth 100000 in
theorem refProps_nil (R : RT) (w : World) (hR : R.Is w) (hv : R.lv = .slice none 0 0) (h0 : R.es = []) : Calls Tryz.prog 23 #[.pointer (some ⟨R.t, 0, none⟩)] w fun e w' => ∃ v, e = .returned v ∧ w'.ownsRow w.heap.size 58 20 v R.es.length (flatP (R.es.map (fun x => (x.k, x.d)))) ∧ Below w.heap.size w w' := by
  have HV : Hid (Holds w R.t [.slice none 0 0, .int .i64 R.nx]) := hide (by have := hR.tab; unfold RT.cs at this; rw [hv] at this; exact this)
  rw [h0]
  clear hR hv h0
  go_enter Tryz.func23, Tryz.ntmps23
  go_wp2_with fail
  go_loopg [3, 4] 0 (fun gm s3 s4 wr => s3 = .slice none 0 0 ∧ s4 = .int .i64 0 ∧ wr = w)
  case atStart => exact ⟨rfl, rfl, rfl⟩
  case round =>
    obtain ⟨rfl, rfl, rfl⟩ := hrel
    go_wp2_with (first | go_skip | ((refine rd (by rfl) (ex_load1 46 Tryz.isAgg46 rfl rfl (unhide HV) rfl) ?_); simp only [Act.put, nzA, nzB, nzC]))
    go_ret
    exact ⟨_, rfl, ⟨rfl, .inl ⟨rfl, rfl⟩⟩, Below.refl _ _⟩
set_option maxRecDepth 100000 in
theorem refKeys_nil (R : RT) (w : World) (hR : R.Is w) (hv : R.lv = .slice none 0 0) (h0 : R.es = []) : Calls Tryz.prog 29 #[.pointer (some ⟨R.t, 0, none⟩)] w fun e w' => ∃ v, e = .returned v ∧ OwnK w' w.heap.size v (ordK (R.es.map (·.k))) ∧ Below w.heap.size w w' := by
  have HV : Hid (Holds w R.t [.slice none 0 0, .int .i64 R.nx]) := hide (by have := hR.tab; unfold RT.cs at this; rw [hv] at this; exact this)
  have HC := hide (refOrder11 (.slice none 0 0) [] (fun k hk => by cases hk) w (.inl ⟨_, _, rfl, rfl⟩) (by simp))
  rw [h0]
  clear hR hv h0
  go_enter Tryz.func29, Tryz.ntmps29
  go_wp2_with fail
  go_loopg [3, 4] 0 (fun gm s3 s4 wr => s3 = .slice none 0 0 ∧ s4 = .int .i64 0 ∧ wr = w)
  case atStart => exact ⟨rfl, rfl, rfl⟩
  case round =>
    obtain ⟨rfl, rfl, rfl⟩ := hrel
    go_wp2_with (first | go_skip | ((refine rd (by rfl) (ex_load1 46 Tryz.isAgg46 rfl rfl (unhide HV) rfl) ?_); simp only [Act.put, nzA, nzB, nzC]))
    refine (unhide HC).mono ?_
    rintro _ w7 ⟨v7, rfl, hO7, hb7⟩
    have HO7 := hide hO7
    have Hb7 := hide hb7
    clear hO7 hb7
    go_wp2
    go_ret
    exact ⟨v7, rfl, unhide HO7, unhide Hb7⟩
theorem refProps23 (R : RT) (w : World) (hR : R.Is w) (hl : R.es.length ≤ 3000000) : Calls Tryz.prog 23 #[.pointer (some ⟨R.t, 0, none⟩)] w fun e w' => ∃ v, e = .returned v ∧ w'.ownsRow w.heap.size 58 20 v R.es.length (flatP (R.es.map (fun x => (x.k, x.d)))) ∧ Below w.heap.size w w' := by
  rcases hR.own.2 with ⟨h1, h2⟩ | ⟨g, cap, cur, h1, h2⟩
  · exact refProps_nil R w hR h1 (List.length_eq_zero_iff.1 h2)
  · exact refProps_rows R g cap w hR hl h1
theorem refKeys29 (R : RT) (w : World) (hR : R.Is w) (hl : R.es.length ≤ 800000) (hz : ∀ x ∈ R.es, goodK x.k = true) : Calls Tryz.prog 29 #[.pointer (some ⟨R.t, 0, none⟩)] w fun e w' => ∃ v, e = .returned v ∧ OwnK w' w.heap.size v (ordK (R.es.map (·.k))) ∧ Below w.heap.size w w' := by
  rcases hR.own.2 with ⟨h1, h2⟩ | ⟨g, cap, cur, h1, h2⟩
  · exact refKeys_nil R w hR h1 (List.length_eq_zero_iff.1 h2)
  · exact refKeys_rows R g cap w hR (Nat.le_trans hl (by decide)) hz h1
def EE.pr (x : EE) : KK × DD := (x.k, x.d)
/-- Both tables tell the same. -/
def Rel (T : TT) (R : RT) : Prop := T.live.map RR.pr = R.es.map EE.pr
theorem Rel.len {T : TT} {R : RT} (h : Rel T R) : T.live.length = R.es.length := by
  have := congrArg List.length h
  simpa using this
theorem Rel.keys {T : TT} {R : RT} (h : Rel T R) : T.live.map (·.k) = R.es.map (·.k) := by
  have := congrArg (List.map Prod.fst) h
  rw [List.map_map, List.map_map] at this
  exact this
theorem Rel.good {T : TT} {R : RT} {W : World} (h : Rel T R) (hT : T.Is W) : ∀ x ∈ R.es, goodK x.k = true := by
  intro x hx
  have h1 : x.k ∈ R.es.map (·.k) := List.mem_map.2 ⟨x, hx, rfl⟩
  rw [← h.keys] at h1
  obtain ⟨r, hr, he⟩ := List.mem_map.1 h1
  rw [← he]
  exact hT.good r hr
theorem find_pr {α : Type} (f : α → KK × DD) (k : KK) : ∀ l : List α, (l.find? (fun x => decide ((f x).1 = k))).map f = (l.map f).find? (fun p => decide (p.1 = k))
  | [] => rfl
  | x :: l => by
    simp only [List.map_cons, List.find?_cons]
    cases decide ((f x).1 = k)
    · exact find_pr f k l
    · rfl
theorem idx_find {α : Type} (p : α → Bool) : ∀ l : List α, l.find? p = (l.findIdx? p).bind (fun i => l[i]?)
  | [] => rfl
  | x :: l => by
    rw [List.find?_cons, List.findIdx?_cons]
    cases hp : p x
    · simp only [Bool.false_eq_true, if_false]
      rw [idx_find p l]
      cases l.findIdx? p <;> simp
    · simp
theorem RT.find_eq (R : RT) (k : KK) : R.es.find? (fun x => decide (x.k = k)) = (R.find k).bind (fun i => R.es[i]?) := idx_find _ _
theorem Rel.find {T : TT} {R : RT} (h : Rel T R) (k : KK) : (T.find k).map RR.pr = ((R.find k).bind (fun i => R.es[i]?)).map EE.pr := by
  rw [← RT.find_eq]
  have h1 := find_pr RR.pr k T.live
  have h2 := find_pr EE.pr k R.es
  unfold Rel at h
  rw [h] at h1
  exact h1.trans h2.symm
theorem RT.find_bind {R : RT} {k : KK} {i : Nat} (h : R.find k = some i) : ∃ x, R.es[i]? = some x ∧ x.k = k := by
  obtain ⟨hi, hk⟩ := RT.find_lt h
  exact ⟨R.es[i], List.getElem?_eq_getElem hi, hk⟩
theorem Rel.some {T : TT} {R : RT} (h : Rel T R) (k : KK) : (T.find k).isSome = (R.find k).isSome := by
  have h1 := congrArg Option.isSome (h.find k)
  simp only [Option.isSome_map] at h1
  rw [h1]
  cases hr : R.find k with
  | none => rfl
  | some i =>
    obtain ⟨x, hx, _⟩ := RT.find_bind hr
    simp [hx]
theorem Rel.getD {T : TT} {R : RT} (h : Rel T R) (k : KK) : getD T k = RT.getD R k := by
  have h1 := h.find k
  unfold Go.Proofs.YtpbdidnphkkenaaGreatDoor.getD RT.getD
  cases hr : R.find k with
  | none =>
    rw [hr] at h1
    simp at h1
    simp [h1]
  | some i =>
    obtain ⟨hi, hk⟩ := RT.find_lt hr
    rw [hr] at h1
    simp [List.getElem?_eq_getElem hi] at h1
    obtain ⟨r, h2, h3⟩ := h1
    have h4 := congrArg Prod.snd h3
    simp [h2, hi]
    exact h4
theorem Rel.added {T : TT} {R : RT} (h : Rel T R) (rv lv : Value) (B t : Nat) (k : KK) (d : DD) (n nx : Int) : Rel (T.added rv B k d) ⟨t, lv, R.es ++ [⟨k, d, n⟩], nx⟩ := by
  unfold Rel at *
  rw [TT.added_live, List.map_append, h]
  simp [RR.pr, EE.pr]
theorem TT.find_none {T : TT} {k : KK} (h : T.find k = none) : ∀ r ∈ T.live, r.k ≠ k := by
  intro r hr
  have := List.find?_eq_none.1 h r hr
  simpa using this
theorem pair_inj {α β : Type} {f : α → β} {l : List α} (h : l.Pairwise (fun a b => f a ≠ f b)) {a b : α} (ha : a ∈ l) (hb : b ∈ l) (he : f a = f b) : a = b := by
  induction l with
  | nil => cases ha
  | cons x l ih =>
    obtain ⟨h1, h2⟩ := List.pairwise_cons.1 h
    rcases List.mem_cons.1 ha with e1 | ha'
    · rcases List.mem_cons.1 hb with e2 | hb'
      · rw [e1, e2]
      · rw [e1] at he
        exact absurd he (h1 b hb')
    · rcases List.mem_cons.1 hb with e2 | hb'
      · rw [e2] at he
        exact absurd he.symm (h1 a ha')
      · exact ih h2 ha' hb'
def setP (k : KK) (d : DD) (p : KK × DD) : KK × DD := if p.1 = k then (p.1, d) else p
theorem Rel.upd {T : TT} {R : RT} {W : World} (h : Rel T R) (hT : T.Is W) {k : KK} {r : RR} (hf : T.find k = .some r) {a b : List EE} {x : EE} (he : R.es = a ++ x :: b) (hg : R.find k = .some a.length) (t : Nat) (lv : Value) (d : DD) (nx : Int) : Rel (T.upd r.b d) ⟨t, lv, a ++ ⟨x.k, d, x.n⟩ :: b, nx⟩ := by
  obtain ⟨hr1, hr2, hr3⟩ := TT.find_mem hf
  have hrl : r ∈ T.live := List.mem_of_find?_eq_some hf
  have hnd : (T.rows.map (·.b)).Nodup := by
    have := hT.nd
    unfold TT.blocks at this
    rw [List.nodup_cons, List.nodup_cons, List.nodup_append] at this
    exact this.2.2.2.1
  have hnp : T.rows.Pairwise (fun a b => a.b ≠ b.b) := by
    unfold List.Nodup at hnd
    rwa [List.pairwise_map] at hnd
  have hL : (T.upd r.b d).live.map RR.pr = (T.live.map RR.pr).map (setP k d) := by
    rw [TT.upd_live, List.map_map, List.map_map]
    apply List.map_congr_left
    intro q hq
    have hqr : q ∈ T.rows := (List.mem_filter.1 hq).1
    simp only [Function.comp]
    unfold updR setP RR.pr
    by_cases e : q.b = r.b
    · have := pair_inj hnp hqr hr1 e
      subst this
      simp [hr3]
    · have e2 : q.k ≠ k := by
        intro e3
        apply e
        rw [pair_inj (f := RR.k) hT.keys hq hrl (e3.trans hr3.symm)]
      simp [e, e2]
  have hkeys : R.es.Pairwise (fun a b => a.k ≠ b.k) := by
    have h1 := hT.keys
    have h2 : (T.live.map (·.k)).Pairwise (fun a b => a ≠ b) := by rw [List.pairwise_map]; exact h1
    rw [h.keys, List.pairwise_map] at h2
    exact h2
  have hxk : x.k = k := by
    obtain ⟨hi, hk⟩ := RT.find_lt hg
    simpa [he] using hk
  have hR : (a ++ (⟨x.k, d, x.n⟩ : EE) :: b).map EE.pr = (R.es.map EE.pr).map (setP k d) := by
    rw [he] at hkeys ⊢
    have hp := List.pairwise_append.1 hkeys
    have hp2 := List.pairwise_cons.1 hp.2.1
    rw [List.map_map, List.map_append, List.map_append, List.map_cons, List.map_cons]
    congr 1
    · apply List.map_congr_left
      intro q hq
      have := hp.2.2 q hq x (by simp)
      simp [setP, EE.pr, ← hxk, this]
    · congr 1
      · simp [setP, EE.pr, hxk]
      · apply List.map_congr_left
        intro q hq
        have := hp2.1 q hq
        simp [setP, EE.pr, ← hxk, Ne.symm this]
  unfold Rel
  rw [hL, hR]
  unfold Rel at h
  rw [h]
/-- The cells of a pair of tables. -/
def pairCs (t0 t1 r0 r1 : Nat) (left : Int) : List Value := [.pointer (some ⟨t0, 0, none⟩), .pointer (some ⟨t1, 0, none⟩), .pointer (some ⟨r0, 0, none⟩), .pointer (some ⟨r1, 0, none⟩), .int .i64 left]
theorem newPair7 (w : World) : Calls Tryz.prog 7 #[] w fun e w' => ∃ (T0 T1 : TT) (R0 R1 : RT) (P : Nat), e = .returned (.pointer (some ⟨P, 0, none⟩)) ∧ Holds w' P (pairCs T0.t T1.t R0.t R1.t 4000) ∧ T0.Is w' ∧ T1.Is w' ∧ R0.Is w' ∧ R1.Is w' ∧ T0.rows = [] ∧ T1.rows = [] ∧ T0.last = 0 ∧ T1.last = 0 ∧ R0.es = [] ∧ R1.es = [] ∧ R0.nx = 0 ∧ R1.nx = 0 ∧
    (∀ b ∈ T0.blocks, w.heap.size ≤ b ∧ b ∉ T1.blocks ∧ b ∉ R0.blocks ∧ b ∉ R1.blocks ∧ b ≠ P) ∧ (∀ b ∈ T1.blocks, w.heap.size ≤ b ∧ b ∉ R0.blocks ∧ b ∉ R1.blocks ∧ b ≠ P) ∧ (∀ b ∈ R0.blocks, w.heap.size ≤ b ∧ b ∉ R1.blocks ∧ b ≠ P) ∧ (∀ b ∈ R1.blocks, w.heap.size ≤ b ∧ b ≠ P) ∧ w.heap.size ≤ P ∧ Below w.heap.size w w' := by
  have HN := hide (fun X => new10 X)
  go_enter Tryz.func7, Tryz.ntmps7
  go_wp2_with fail
  refine ((unhide HN) _).mono ?_
  rintro _ w1 ⟨T0, rfl, hT0, hr0, hl0, hb0, hB0⟩
  have H0 := hide (And.intro hT0 (And.intro hr0 (And.intro hl0 (And.intro hb0 hB0))))
  clear hT0 hr0 hl0 hb0 hB0
  go_wp2_with fail
  refine ((unhide HN) _).mono ?_
  rintro _ w2 ⟨T1, rfl, hT1, hr1, hl1, hb1, hB1⟩
  have H1 := hide (And.intro hT1 (And.intro hr1 (And.intro hl1 (And.intro hb1 hB1))))
  clear hT1 hr1 hl1 hb1 hB1
  go_wp2
  go_ret
  obtain ⟨hT0, hr0, hl0, hb0, hB0⟩ := unhide H0
  obtain ⟨hT1, hr1, hl1, hb1, hB1⟩ := unhide H1
  have q := ((((Hq.nil w2 []).new [.slice none 0 0, .int .i64 0] 48 (Nat.succ_pos _)).new [.slice none 0 0, .int .i64 0] 48 (Nat.succ_pos _)).new (pairCs T0.t T1.t w2.heap.size (w2.heap.size + 1) 4000) 31 (Nat.succ_pos _))
  simp only [World.size_alloc] at q
  obtain ⟨W, hW⟩ : ∃ W, W = (((w2.alloc (Obj.cells #[Value.slice none 0 0, Value.int IntKind.i64 0] 48)).alloc (Obj.cells #[Value.slice none 0 0, Value.int IntKind.i64 0] 48)).alloc (Obj.cells #[Value.pointer (some ⟨T0.t, 0, none⟩), Value.pointer (some ⟨T1.t, 0, none⟩), Value.pointer (some ⟨w2.heap.size, 0, none⟩), Value.pointer (some ⟨w2.heap.size + 1, 0, none⟩), Value.int IntKind.i64 4000] 31)) := ⟨_, rfl⟩
  have hb : Below w2.heap.size w2 W := by
    rw [hW]
    exact (((Below.refl _ _).alloc (Nat.le_refl _) _).alloc (by simp) _).alloc (by simp; omega) _
  replace q : Hq w2 W [] [(w2.heap.size, [.slice none 0 0, .int .i64 0]), (w2.heap.size + 1, [.slice none 0 0, .int .i64 0]), (w2.heap.size + 1 + 1, pairCs T0.t T1.t w2.heap.size (w2.heap.size + 1) 4000)] := by rw [hW]; exact q
  rw [← hW]
  clear hW
  have l0 := hT0.lt
  have l1 := hT1.lt
  have s1 := hB1.size
  have s0 := hB0.size
  refine ⟨T0, T1, ⟨w2.heap.size, .slice none 0 0, [], 0⟩, ⟨w2.heap.size + 1, .slice none 0 0, [], 0⟩, w2.heap.size + 1 + 1, rfl, q.get 2 rfl, (hT0.on hB1).on hb, hT1.on hb, ⟨q.get 0 rfl, ⟨rfl, .inl ⟨rfl, rfl⟩⟩, by simp [RT.blocks, Value.ownBlock]⟩, ⟨q.get 1 rfl, ⟨rfl, .inl ⟨rfl, rfl⟩⟩, by simp [RT.blocks, Value.ownBlock]⟩, hr0, hr1, hl0, hl1, rfl, rfl, rfl, rfl, ?_, ?_, ?_, ?_, by omega, hB0.trans ((hB1.mono s0).trans (hb.mono (by omega)))⟩
  · intro b hb'
    have h1 := l0 b hb'
    have h2 := hb0 b hb'
    refine ⟨h2, fun h => ?_, ?_, ?_, by omega⟩
    · have := hb1 b h; omega
    · simp [RT.blocks, Value.ownBlock]; omega
    · simp [RT.blocks, Value.ownBlock]; omega
  · intro b hb'
    have h1 := l1 b hb'
    have h2 := hb1 b hb'
    refine ⟨by omega, ?_, ?_, by omega⟩
    · simp [RT.blocks, Value.ownBlock]; omega
    · simp [RT.blocks, Value.ownBlock]; omega
  · intro b hb'
    have h1 : b = w2.heap.size := by simpa [RT.blocks, Value.ownBlock] using hb'
    refine ⟨by omega, ?_, by omega⟩
    simp [RT.blocks, Value.ownBlock]; omega
  · intro b hb'
    have h1 : b = w2.heap.size + 1 := by simpa [RT.blocks, Value.ownBlock] using hb'
    exact ⟨by omega, by omega⟩
theorem cput_nil (cs : List Value) (p : Nat) : cput cs p [] = cs := by simp [cput]
theorem setCells_obj {e : TypeId} {fr : Nat × Nat} (g : Nat) : ∀ (vs : List Value) (p : Nat) (W : World) (cur : Array Value), W.heap[g]? = some (.cells cur e fr) → p + vs.length ≤ cur.size → ∃ cur' : Array Value, (W.setCells g p vs).heap[g]? = some (.cells cur' e fr) ∧ cur'.toList = cput cur.toList p vs
  | [], p, W, cur, h, _ => ⟨cur, h, (cput_nil _ _).symm⟩
  | v :: vs, p, W, cur, h, hp => by
    simp only [List.length_cons] at hp
    have h1 : (W.setCell ⟨g, p, none⟩ v).heap[g]? = some (.cells (cur.setIfInBounds p v) e fr) := by
      obtain ⟨hlt, hk⟩ := Array.getElem?_eq_some_iff.1 h
      show (W.heap.modify g _)[g]? = _
      rw [Array.getElem?_eq_getElem (by rw [Array.size_modify]; exact hlt), Array.getElem_modify_self, hk]
      rfl
    obtain ⟨cur', h2, h3⟩ := setCells_obj g vs (p + 1) _ _ h1 (by simp; omega)
    refine ⟨cur', h2, ?_⟩
    rw [h3]
    have hpl : p < cur.toList.length := by simp; omega
    unfold cput
    have e1 : (cur.setIfInBounds p v).toList = cur.toList.set p v := by simp
    rw [e1, List.take_set, List.drop_set_of_lt (by omega), List.take_succ_eq_append_getElem hpl]
    simp only [List.length_cons]
    rw [List.set_append_right _ _ (by simp; omega), show p + 1 + vs.length = p + (vs.length + 1) by omega]
    have e2 : p - (cur.toList.take p).length = 0 := by simp; omega
    rw [e2]
    simp
theorem cput_app (A Y vs : List Value) (p : Nat) : cput (A ++ Y) (A.length + p) vs = A ++ cput Y p vs := by
  unfold cput
  rw [List.take_append, List.drop_append, List.take_of_length_le (by omega), List.drop_eq_nil_of_le (by omega), show A.length + p - A.length = p by omega, show A.length + p + vs.length - A.length = p + vs.length by omega]
  simp
theorem cput_left (A B vs : List Value) (p : Nat) (h : p + vs.length ≤ A.length) : cput (A ++ B) p vs = cput A p vs ++ B := by
  unfold cput
  rw [List.take_append_of_le_length (by omega), List.drop_append_of_le_length h]
  simp
theorem cput_length (cs vs : List Value) (p : Nat) (h : p + vs.length ≤ cs.length) : (cput cs p vs).length = cs.length := by
  unfold cput
  rw [List.length_append, List.length_append, List.length_take, List.length_drop]
  omega
theorem own_set {w : World} {base e s n g c p : Nat} {xs vs : List Value} (h : w.ownsRow base e s (.slice (some ⟨g, 0, none⟩) n c) n xs) (hp : p + vs.length ≤ xs.length) : (w.setCells g p vs).ownsRow base e s (.slice (some ⟨g, 0, none⟩) n c) n (cput xs p vs) := by
  obtain ⟨h1, h2⟩ := h
  rcases h2 with ⟨h2, -⟩ | ⟨g', cap, cur, he, h3, h4, h5, h6, h7, h8⟩
  · cases h2
  · cases he
    have hle : n * s ≤ cur.size := by rw [h7]; exact Nat.mul_le_mul_right _ h5
    obtain ⟨cur', h9, h10⟩ := setCells_obj g vs p w cur h4 (by omega)
    have hd : cur.toList = xs ++ cur.toList.drop (n * s) := by rw [← h8, List.take_append_drop]
    rw [hd, cput_left _ _ _ _ hp] at h10
    have hcl := cput_length xs vs p hp
    have hs' : cur'.size = cur.size := by
      have e1 : cur'.toList.length = cur.toList.length := by rw [h10, List.length_append, hcl, ← List.length_append, ← hd]
      simpa using e1
    refine ⟨by rw [hcl, h1], .inr ⟨g, c, cur', rfl, h3, h9, h5, h6, by rw [hs']; exact h7, ?_⟩⟩
    rw [h10, List.take_append_of_le_length (by omega), List.take_of_length_le (by omega)]
theorem flatE_len : ∀ l : List EE, (flatE l).length = l.length * 21
  | [] => rfl
  | x :: l => by
    have := flatE_len l
    unfold flatE at *
    rw [List.flatMap_cons, List.length_append, this]
    show 21 + l.length * 21 = (l.length + 1) * 21
    omega
theorem flatE_mid (a b : List EE) (x : EE) : flatE (a ++ x :: b) = flatE a ++ (x.cs ++ flatE b) := by
  unfold flatE
  rw [List.flatMap_append, List.flatMap_cons]
theorem flatE_set (a b : List EE) (x : EE) (d : DD) : flatE (a ++ ⟨x.k, d, x.n⟩ :: b) = cput (flatE (a ++ x :: b)) (a.length * 21 + 2) d.cs := by
  rw [flatE_mid, flatE_mid, ← flatE_len a, cput_app, cput_left _ _ _ _ (by show 2 + 18 ≤ 21; omega)]
  rfl
