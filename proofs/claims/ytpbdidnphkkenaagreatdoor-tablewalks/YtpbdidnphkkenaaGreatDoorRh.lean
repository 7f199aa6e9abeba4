import Derived.Test.YtpbdidnphkkenaaGreatDoorRd
set_option linter.all false
namespace Go.Proofs.YtpbdidnphkkenaaGreatDoor
set_option maxHeartbeats 1000000
section
open Go Go.Proofs Go.Maps Go.RowKit
theorem fresh_blocks {W w : World} {v v' : Value} {t : Nat} (hf : Fresh W v v') (hnr : ∀ q, q = t ∨ w.heap.size ≤ q → some q ≠ v.ownBlock) (hs : w.heap.size ≤ W.heap.size) (ht : t < W.heap.size) : ∀ gg, v'.ownBlock = some gg → (v.ownBlock = some gg ∨ w.heap.size ≤ gg) ∧ gg ≠ t := by
  intro gg hgg
  rcases hf with h | h
  · rw [hgg] at h
    exact ⟨.inl h.symm, fun e => hnr gg (.inl e) h⟩
  · rw [hgg] at h
    have h2 := Option.some.inj h
    exact ⟨.inr (by omega), by omega⟩
theorem ex_appendF {a : Act} {w : World} {o : Oper} {t e : TypeId} {size bytes k m c B base : Nat} {z v : Value} {xs news : List Value} {s x : Operand} (ho : o.op = .call { callee := .builtin .append, args := #[s, x], argTypes := #[t, t] }) (hs : a.eval s = v) (hx : a.eval x = .slice (some ⟨B, 0, none⟩) m c)
    (ht : Tryz.prog.underlying t = some (.slice e)) (hi : (Tryz.prog.info? e).map (fun i => (i.zero, i.size, i.bytes)) = some (some z, size, bytes)) (hz : z.cells.size = size) (hsz : 0 < size) (hown : w.ownsRow base e size v k xs) (hB : Holds w B news) (hl : news.length = m * size) (h1 : ∀ u ∈ news, u.oneCell' = true)
    (hn : k + m ≤ 4000000) (hby : bytes ≤ 10000) (hbase : base ≤ w.heap.size) :
    ∃ A c' w', (execOp a.eval o).run Tryz.prog w = .ok (.value (.slice A (k + m) c')) w' ∧ w'.ownsRow base e size (.slice A (k + m) c') (k + m) (xs ++ news) ∧ w.grownBy w' v.ownBlock ∧ Fresh w v (.slice A (k + m) c') := by
  obtain ⟨i0, hi, hz0, hz1, hz2⟩ := info_parts hi
  obtain ⟨v', w', hrun, h2, h3, h4⟩ := append_fresh w base t o.type e i0 _ size bytes ht hi hz0 hz1 hz2 hz hsz v k xs hown ⟨B, 0, none⟩ m c news hl (fun j u hj => by
    rw [Addr.add_mid]
    exact hB.2 j u hj) h1 (by unfold maxLen; omega) (Nat.le_trans (Nat.mul_le_mul hn hby) (by decide)) hbase
  obtain ⟨A', c', rfl⟩ := own_form h2
  refine ⟨A', c', w', ?_, h2, h3, h4⟩
  simp [execOp, ho, resolve, invoke, builtin, hs, hx, hrun, Result.andThen]
theorem gappF {md : Region.Mode} {ops : Array Oper} {Q : Exit → Act → World → Prop} {S : World → Prop} {w : World} {fuel : Nat} {listed : Array Bool} {a : Act} {o : Oper} {rs : List Nat} (i : Nat) (dst : Option Tmp) {t e : TypeId} {size bytes k m c B base : Nat} {z v : Value} {xs news : List Value} {s x : Operand} (hi0 : ops[i]? = some o) (hd : o.dst = dst) (hw : Region.wanted o (yielded ops a.tmps) = true) (ho : o.op = .call { callee := .builtin .append, args := #[s, x], argTypes := #[t, t] }) (hs : a.eval s = v) (hx : a.eval x = .slice (some ⟨B, 0, none⟩) m c)
    (ht : Tryz.prog.underlying t = some (.slice e)) (hi : (Tryz.prog.info? e).map (fun i => (i.zero, i.size, i.bytes)) = some (some z, size, bytes)) (hz : z.cells.size = size) (hsz : 0 < size) (hown : w.ownsRow base e size v k xs) (hB : Holds w B news) (hl : news.length = m * size) (h1 : ∀ u ∈ news, u.oneCell' = true)
    (hn : k + m ≤ 4000000) (hby : bytes ≤ 10000) (hbase : base ≤ w.heap.size) (hon : ∀ X, w.grownBy X v.ownBlock → S X)
    (h : ∀ A c' X, X.ownsRow base e size (.slice A (k + m) c') (k + m) (xs ++ news) → w.grownBy X v.ownBlock → Fresh w v (.slice A (k + m) c') → wpAnyH Tryz.prog md ops Q S fuel (listed.setIfInBounds i true) (a.put dst (.slice A (k + m) c')) X) (hs2 : AllReadyH Tryz.prog md ops Q S fuel listed a w rs) : AllReadyH Tryz.prog md ops Q S fuel listed a w (i :: rs) := by
  obtain ⟨A, c', w', he, h2, h3, h4⟩ := ex_appendF ho hs hx ht hi hz hsz hown hB hl h1 hn hby hbase
  exact gval i dst hi0 hd hw he (hon w' h3) (h A c' w' h2 h3 h4) hs2
theorem info82w : (Tryz.prog.info? 82).map (fun i => (i.zero, i.size, i.bytes)) = some (some (.agg (EE.mk zeroK zeroD 0).cs.toArray), 21, 200) := by kernel_rfl
theorem siz46 : (Tryz.prog.info? 46).map (·.size) = some 1 := by kernel_rfl
theorem siz3 : (Tryz.prog.info? 3).map (·.size) = some 1 := by kernel_rfl
set_option maxRecDepth 100000 in
theorem refPut_none (R : RT) (k : KK) (d : DD) (w : World) (hR : R.Is w) (hl : R.es.length ≤ 3000000) (hnx : 0 ≤ R.nx ∧ R.nx < 4000000) (hgk : goodK k = true) (hf : R.find k = none) : Calls Tryz.prog 13 #[.pointer (some ⟨R.t, 0, none⟩), k.agg, d.agg] w fun e w' => e = .returned (.int .i64 0) ∧ ∃ lv, (RT.mk R.t lv (R.es ++ [⟨k, d, R.nx⟩]) (R.nx + 1)).Is w' ∧ Fr w w' R.blocks ∧ (∀ g, lv.ownBlock = some g → R.lv.ownBlock = some g ∨ w.heap.size ≤ g) := by
  have HR := hide (hR.on (two_below w k.cs.toArray d.cs.toArray 33 39))
  have LL := hide (Hq.two w R.blocks k.cs d.cs 33 39 (Nat.succ_pos _) (Nat.succ_pos _))
  have HC := hide (fun X hX => find36 R k X hX hl)
  have HG := hide (fun X => refGoodK k X)
  have HLT := hide hR.lt
  have HNDA := hide hR.nd
  have HOW : Hid (∀ X, R.Is X → X.ownsRow 0 82 21 R.lv R.es.length (flatE R.es) ∧ Holds X R.t [R.lv, .int .i64 R.nx]) := hide (fun X hX => ⟨hX.own, hX.tab⟩)
  rw [hf] at HC
  rw [show fI none = -1 from rfl] at HC
  have HNX := hide hnx
  clear hf hnx
  clear hR
  rw [show k.agg = .agg k.cs.toArray from rfl, show d.agg = .agg d.cs.toArray from rfl]
  go_enter Tryz.func13, Tryz.ntmps13
  go_wp2_with (first | go_skip | ((refine rd (by rfl) (ex_loadN (vs := k.cs) 33 2 row33x siz33 rfl rfl ((unhide LL).get 0 rfl) rfl rfl) ?_); simp only [Act.put, nzA, nzB, nzC]))
  refine ((unhide HG) _).mono ?_
  rintro _ w1 ⟨rfl, hb⟩
  rw [hgk]
  replace LL := hide ((unhide LL).on hb)
  replace HR := hide ((unhide HR).on hb)
  clear hb
  go_wp2_with (first | go_skip | ((refine rd (by rfl) (ex_loadN (vs := k.cs) 33 2 row33x siz33 rfl rfl ((unhide LL).get 0 rfl) rfl rfl) ?_); simp only [Act.put, nzA, nzB, nzC]))
  refine ((unhide HC) _ (unhide HR)).mono ?_
  rintro _ w2 ⟨rfl, hb⟩
  replace LL := hide ((unhide LL).on hb)
  replace HR := hide ((unhide HR).on hb)
  clear hb
  go_wp2
  obtain ⟨hO, hT⟩ := (unhide HOW) _ (unhide HR)
  have hrl := (unhide HLT) R.t (by simp [RT.blocks])
  have hnr : ∀ q, q = R.t ∨ w.heap.size ≤ q → some q ≠ R.lv.ownBlock := fun q hq e => by
    rcases hq with rfl | hq
    · have h1 := unhide HNDA; unfold RT.blocks at h1; rw [← e] at h1; simp at h1
    · have := (unhide HLT) q (by unfold RT.blocks; rw [← e]; simp); omega
  refine wp_region_held_drew (P := Tryz.prog) (S := fun X => (∃ v, Holds X R.t [v, .int .i64 R.nx]) ∧ Holds X w.heap.size k.cs ∧ Holds X (w.heap.size + 1) d.cs) (by kernel_rfl) ⟨⟨_, hT.block rfl⟩, ((unhide LL).get 0 rfl).block rfl, ((unhide LL).get 1 rfl).block rfl⟩ (fun hS0 => ?_)
  refine gsem 0 (some 24) (.pointer (some ⟨R.t, 0, none⟩)) rfl (by kernel_rfl) (by kernel_rfl) (by kernel_rfl) (fun _ _ _ h => h) (by kernel_rfl) (by kernel_rfl) (fun _ _ => by kernel_rfl) hS0 ?_
  simp only [Act.put, nzA, nzB, nzC]
  refine gsem 1 (some 25) (.pointer (some ⟨R.t, 0, none⟩)) rfl (by kernel_rfl) (by kernel_rfl) (by kernel_rfl) (fun _ _ _ h => h) (by kernel_rfl) (by kernel_rfl) (fun _ _ => by kernel_rfl) hS0 ?_
  simp only [Act.put, nzA, nzB, nzC]
  refine gsem 2 (some 26) (.pointer (some ⟨R.t, 0, none⟩)) rfl (by kernel_rfl) (by kernel_rfl) (by kernel_rfl) (fun _ _ _ h => h) (by kernel_rfl) (by kernel_rfl) (fun _ _ => by kernel_rfl) hS0 ?_
  simp only [Act.put, nzA, nzB, nzC]
  refine gsem 3 (some 27) (.pointer (some ⟨R.t, 0, none⟩)) rfl (by kernel_rfl) (by kernel_rfl) (by kernel_rfl) (fun _ _ _ h => h) (by kernel_rfl) (by kernel_rfl) (fun _ _ => by kernel_rfl) hS0 ?_
  simp only [Act.put, nzA, nzB, nzC]
  refine gsem 5 (some 29) (k.agg) rfl (by kernel_rfl) (by kernel_rfl) (by kernel_rfl) (fun _ _ _ h => h) (by kernel_rfl) (by kernel_rfl) (fun X hX => ex_loadN (vs := k.cs) 33 2 row33x siz33 rfl rfl (hX.2.1) rfl rfl) hS0 ?_
  simp only [Act.put, nzA, nzB, nzC]
  refine gsem 6 (some 30) (d.agg) rfl (by kernel_rfl) (by kernel_rfl) (by kernel_rfl) (fun _ _ _ h => h) (by kernel_rfl) (by kernel_rfl) (fun X hX => ex_loadN (vs := d.cs) 39 18 row39 siz39 rfl rfl (hX.2.2) rfl rfl) hS0 ?_
  simp only [Act.put, nzA, nzB, nzC]
  refine gsem 7 (some 31) (.pointer (some ⟨R.t, 0, none⟩)) rfl (by kernel_rfl) (by kernel_rfl) (by kernel_rfl) (fun _ _ _ h => h) (by kernel_rfl) (by kernel_rfl) (fun _ _ => by kernel_rfl) hS0 ?_
  simp only [Act.put, nzA, nzB, nzC]
  refine gsem 8 (some 32) (.pointer (some ⟨R.t, 0, none⟩)) rfl (by kernel_rfl) (by kernel_rfl) (by kernel_rfl) (fun _ _ _ h => h) (by kernel_rfl) (by kernel_rfl) (fun _ _ => by kernel_rfl) hS0 ?_
  simp only [Act.put, nzA, nzB, nzC]
  refine gsem 9 (some 33) (.pointer (some ⟨R.t, 1, none⟩)) rfl (by kernel_rfl) (by kernel_rfl) (by kernel_rfl) (fun _ _ _ h => h) (by kernel_rfl) (by kernel_rfl) (fun _ _ => by kernel_rfl) hS0 ?_
  simp only [Act.put, nzA, nzB, nzC]
  refine gsem 10 (some 34) (.int .i64 R.nx) rfl (by kernel_rfl) (by kernel_rfl) (by kernel_rfl) (fun _ _ _ h => h) (by kernel_rfl) (by kernel_rfl) (fun X hX => (hX.1.elim (fun v hv => ex_load1 3 Tryz.isAgg3 rfl rfl hv rfl))) hS0 ?_
  simp only [Act.put, nzA, nzB, nzC]
  refine gsem 11 (some 35) (.agg (EE.mk k d R.nx).cs.toArray) rfl (by kernel_rfl) (by kernel_rfl) (by kernel_rfl) (fun _ _ _ h => h) (by kernel_rfl) (by kernel_rfl) (fun _ _ => by kernel_rfl) hS0 ?_
  simp only [Act.put, nzA, nzB, nzC]
  have hTd : Holds w2.drew R.t [R.lv, .int .i64 R.nx] := hT.block rfl
  have bl := (Below.refl w2.drew.heap.size w2.drew).alloc (Nat.le_refl _) (Obj.cells (EE.mk k d R.nx).cs.toArray 82)
  have hsz : w.heap.size + 1 < w2.drew.heap.size ∧ R.t < w2.drew.heap.size := by
    have h1 := (unhide LL).lt (w.heap.size + 1, d.cs) (by simp)
    have h2 : w2.drew.heap.size = w2.heap.size := rfl
    constructor <;> omega
  have hS1 : (∃ v, Holds (w2.drew.alloc (Obj.cells (EE.mk k d R.nx).cs.toArray 82)) R.t [v, .int .i64 R.nx]) ∧ Holds (w2.drew.alloc (Obj.cells (EE.mk k d R.nx).cs.toArray 82)) w.heap.size k.cs ∧ Holds (w2.drew.alloc (Obj.cells (EE.mk k d R.nx).cs.toArray 82)) (w.heap.size + 1) d.cs := ⟨⟨_, hTd.block (bl.block _ hsz.2)⟩, hS0.2.1.block (bl.block _ (by omega)), hS0.2.2.block (bl.block _ hsz.1)⟩
  have hT1 : Holds (w2.drew.alloc (Obj.cells (EE.mk k d R.nx).cs.toArray 82)) R.t [R.lv, .int .i64 R.nx] := hTd.block (bl.block _ hsz.2)
  have hO1 := (own_block (w' := w2.drew) hO (fun _ _ => rfl)).alloc (Obj.cells (EE.mk k d R.nx).cs.toArray 82)
  refine wpAnyH_ready (rs := [4, 12]) (by kernel_rfl) (by simp) (gval 4 (some 28) rfl (by kernel_rfl) (by kernel_rfl) (ex_load1 46 Tryz.isAgg46 rfl rfl (hTd) rfl) (hS0) ?_ (gval 12 (some 36) rfl (by kernel_rfl) (by kernel_rfl) (ex_buildS (t := 46) (e := 82) (v := .agg (EE.mk k d R.nx).cs.toArray) (cs := (EE.mk k d R.nx).cs) rfl rfl Tryz.underlying46 info82w (by decide) rfl rfl (by decide)) hS1 ?_ AllReadyH.nil))
  · simp only [Act.put, nzA, nzB, nzC]
    refine wpAnyH_ready (rs := [12]) (by kernel_rfl) (by simp) (gval 12 (some 36) rfl (by kernel_rfl) (by kernel_rfl) (ex_buildS (t := 46) (e := 82) (v := .agg (EE.mk k d R.nx).cs.toArray) (cs := (EE.mk k d R.nx).cs) rfl rfl Tryz.underlying46 info82w (by decide) rfl rfl (by decide)) hS1 ?_ AllReadyH.nil)
    simp only [Act.put, nzA, nzB, nzC]
    refine wpAnyH_ready (rs := [13]) (by kernel_rfl) (by simp) (gappF 13 (some 37) (v := R.lv) (B := w2.drew.heap.size) (m := 1) (c := 1) rfl (by kernel_rfl) (by kernel_rfl) rfl rfl rfl Tryz.underlying46 info82w rfl (by decide) hO1 (Holds.new w2.drew (EE.mk k d R.nx).cs 82) rfl (by simp [EE.cs, KK.cs, DD.cs, VV.cs, Value.oneCell']) (by omega) (by decide) (Nat.zero_le _) ?_ ?_ AllReadyH.nil)
    · intro X hX
      exact ⟨⟨_, hT1.block (hX.block _ (Nat.lt_of_lt_of_le hsz.2 bl.size) (hnr _ (.inl rfl)))⟩, hS1.2.1.block (hX.block _ (Nat.lt_of_lt_of_le (by omega) bl.size) (hnr _ (.inr (Nat.le_refl _)))), hS1.2.2.block (hX.block _ (Nat.lt_of_lt_of_le hsz.1 bl.size) (hnr _ (.inr (Nat.le_succ _))))⟩
    · intro A6 c6 w6 ho6 hg6 hf6
      have hT6 : Holds w6 R.t [R.lv, .int .i64 R.nx] := hT1.block (hg6.block _ (Nat.lt_of_lt_of_le hsz.2 bl.size) (hnr _ (.inl rfl)))
      have hk6 : Holds w6 w.heap.size k.cs := hS1.2.1.block (hg6.block _ (Nat.lt_of_lt_of_le (by omega) bl.size) (hnr _ (.inr (Nat.le_refl _))))
      have hd6 : Holds w6 (w.heap.size + 1) d.cs := hS1.2.2.block (hg6.block _ (Nat.lt_of_lt_of_le hsz.1 bl.size) (hnr _ (.inr (Nat.le_succ _))))
      replace hS0 : (∃ v, Holds w6 R.t [v, .int .i64 R.nx]) ∧ Holds w6 w.heap.size k.cs ∧ Holds w6 (w.heap.size + 1) d.cs := ⟨⟨_, hT6⟩, hk6, hd6⟩
      simp only [Act.put, nzA, nzB, nzC]
      refine gsem 14 (some 38) (.pointer (some ⟨R.t, 0, none⟩)) rfl (by kernel_rfl) (by kernel_rfl) (by kernel_rfl) (fun _ _ _ h => h) (by kernel_rfl) (by kernel_rfl) (fun _ _ => by kernel_rfl) hS0 ?_
      simp only [Act.put, nzA, nzB, nzC]
      refine gsem 15 (some 39) (.pointer (some ⟨R.t, 0, none⟩)) rfl (by kernel_rfl) (by kernel_rfl) (by kernel_rfl) (fun _ _ _ h => h) (by kernel_rfl) (by kernel_rfl) (fun _ _ => by kernel_rfl) hS0 ?_
      simp only [Act.put, nzA, nzB, nzC]
      have hH7 : Holds (w6.setCells R.t 0 [.slice A6 (R.es.length + 1) c6]) R.t [.slice A6 (R.es.length + 1) c6, .int .i64 R.nx] := hT6.put 0 [.slice A6 (R.es.length + 1) c6] (by simp)
      have hne : w.heap.size ≠ R.t ∧ w.heap.size + 1 ≠ R.t := by omega
      refine wpAnyH_ready (rs := [16]) (by kernel_rfl) (by simp) (gskp 16 none rfl (by kernel_rfl) (by kernel_rfl) (ex_store (t := 46) (vs := [.slice A6 (R.es.length + 1) c6]) rfl rfl rfl rfl (by simp [Value.oneCell']) siz46 hT6 (by simp)) ⟨⟨_, hH7⟩, hk6.block (heap_setCells _ _ _ _ _ hne.1), hd6.block (heap_setCells _ _ _ _ _ hne.2)⟩ ?_ AllReadyH.nil)
      have hF7 : Fr w (w6.setCells R.t 0 [.slice A6 (R.es.length + 1) c6]) R.blocks := (((unhide LL).drew.fr.on bl).trans (Fr.grown hg6) (fun q hq => Or.inl (by unfold RT.blocks; exact List.mem_cons_of_mem _ hq))).trans (Fr.setCells w6 R.t 0 [.slice A6 (R.es.length + 1) c6]) (fun q hq => Or.inl (by obtain rfl : q = R.t := (by simpa using hq); simp [RT.blocks]))
      have hnb : ∀ gg, (Value.slice A6 (R.es.length + 1) c6).ownBlock = some gg → (R.lv.ownBlock = some gg ∨ w.heap.size ≤ gg) ∧ gg ≠ R.t := fresh_blocks hf6 hnr (by have h3 := bl.size; omega) (Nat.lt_of_lt_of_le hsz.2 bl.size)
      have HO7 : Hid ((w6.setCells R.t 0 [.slice A6 (R.es.length + 1) c6]).ownsRow 0 82 21 (.slice A6 (R.es.length + 1) c6) (R.es.length + 1) (flatE R.es ++ (EE.mk k d R.nx).cs)) := hide (own_block ho6 (fun gg hgg => heap_setCells _ _ _ _ _ (hnb gg hgg).2))
      have LQ : Hid (Hq w (w6.setCells R.t 0 [.slice A6 (R.es.length + 1) c6]) R.blocks [(R.t, [.slice A6 (R.es.length + 1) c6, .int .i64 R.nx])]) := hide ⟨hF7, (fun q hq => by obtain rfl : q = (R.t, [.slice A6 (R.es.length + 1) c6, .int .i64 R.nx]) := (by simpa using hq); exact ⟨hH7, Nat.succ_pos _⟩), by simp⟩
      have HNB := hide hnb
      clear hS0 hS1 hT6 hk6 hd6 hH7 ho6 hg6 hf6 hF7 hnb hT1 hO1 hTd hT hO bl hsz hnr
      simp only [Act.put, nzA, nzB, nzC]
      refine wpAnyH_done (by kernel_rfl) ?_ _
      try simp only [Act.put, nzA, nzB, nzC]
      generalize w6.setCells R.t 0 [.slice A6 (R.es.length + 1) c6] = w7 at *
      have hnx1 := (unhide HNX).1
      have hnx2 := (unhide HNX).2
      go_wp2_with (first | go_skip | ((refine rd (by rfl) (ex_load1 3 Tryz.isAgg3 rfl rfl ((unhide LQ).get 0 rfl) rfl) ?_); simp only [Act.put, nzA, nzB, nzC]) | ((refine st (vs := [.int .i64 (R.nx + 1)]) 0 3 (by rfl) rfl rfl rfl rfl (by simp [Value.oneCell']) siz3 (unhide LQ) rfl (by simp) (Or.inl (by simp [RT.blocks])) ?_); intro w8 L8 hf8 hs8; replace LQ := hide L8; have HF8 := hide hf8; clear L8 hf8 hs8; simp only [Act.put, nzA, nzB, nzC]))
      go_ret
      refine ⟨rfl, .slice A6 (R.es.length + 1) c6, ⟨(unhide LQ).get 0 rfl, ?_, ?_⟩, (unhide LQ).fr, fun gg hgg => ((unhide HNB) gg hgg).1⟩
      · show w8.ownsRow 0 82 21 (.slice A6 (R.es.length + 1) c6) (R.es ++ [EE.mk k d R.nx]).length (flatE (R.es ++ [EE.mk k d R.nx]))
        rw [flatE_mid R.es [] ⟨k, d, R.nx⟩, List.length_append]
        have := own_block (w' := w8) (unhide HO7) (fun gg hgg => (unhide HF8).block gg (World.ownsRow.lt (unhide HO7) gg hgg).2 (by simpa using ((unhide HNB) gg hgg).2))
        simpa [flatE] using this
      · show (R.t :: (Value.slice A6 (R.es.length + 1) c6).ownBlock.toList).Nodup
        cases hob : (Value.slice A6 (R.es.length + 1) c6).ownBlock with
        | none => simp
        | some gg =>
          have := ((unhide HNB) gg hob).2
          simp
          exact fun e => this e.symm
  · simp only [Act.put, nzA, nzB, nzC]
    refine wpAnyH_ready (rs := [4]) (by kernel_rfl) (by simp) (gval 4 (some 28) rfl (by kernel_rfl) (by kernel_rfl) (ex_load1 46 Tryz.isAgg46 rfl rfl (hT1) rfl) (hS1) ?_ AllReadyH.nil)
    simp only [Act.put, nzA, nzB, nzC]
    refine wpAnyH_ready (rs := [13]) (by kernel_rfl) (by simp) (gappF 13 (some 37) (v := R.lv) (B := w2.drew.heap.size) (m := 1) (c := 1) rfl (by kernel_rfl) (by kernel_rfl) rfl rfl rfl Tryz.underlying46 info82w rfl (by decide) hO1 (Holds.new w2.drew (EE.mk k d R.nx).cs 82) rfl (by simp [EE.cs, KK.cs, DD.cs, VV.cs, Value.oneCell']) (by omega) (by decide) (Nat.zero_le _) ?_ ?_ AllReadyH.nil)
    · intro X hX
      exact ⟨⟨_, hT1.block (hX.block _ (Nat.lt_of_lt_of_le hsz.2 bl.size) (hnr _ (.inl rfl)))⟩, hS1.2.1.block (hX.block _ (Nat.lt_of_lt_of_le (by omega) bl.size) (hnr _ (.inr (Nat.le_refl _)))), hS1.2.2.block (hX.block _ (Nat.lt_of_lt_of_le hsz.1 bl.size) (hnr _ (.inr (Nat.le_succ _))))⟩
    · intro A6 c6 w6 ho6 hg6 hf6
      have hT6 : Holds w6 R.t [R.lv, .int .i64 R.nx] := hT1.block (hg6.block _ (Nat.lt_of_lt_of_le hsz.2 bl.size) (hnr _ (.inl rfl)))
      have hk6 : Holds w6 w.heap.size k.cs := hS1.2.1.block (hg6.block _ (Nat.lt_of_lt_of_le (by omega) bl.size) (hnr _ (.inr (Nat.le_refl _))))
      have hd6 : Holds w6 (w.heap.size + 1) d.cs := hS1.2.2.block (hg6.block _ (Nat.lt_of_lt_of_le hsz.1 bl.size) (hnr _ (.inr (Nat.le_succ _))))
      replace hS0 : (∃ v, Holds w6 R.t [v, .int .i64 R.nx]) ∧ Holds w6 w.heap.size k.cs ∧ Holds w6 (w.heap.size + 1) d.cs := ⟨⟨_, hT6⟩, hk6, hd6⟩
      simp only [Act.put, nzA, nzB, nzC]
      refine gsem 14 (some 38) (.pointer (some ⟨R.t, 0, none⟩)) rfl (by kernel_rfl) (by kernel_rfl) (by kernel_rfl) (fun _ _ _ h => h) (by kernel_rfl) (by kernel_rfl) (fun _ _ => by kernel_rfl) hS0 ?_
      simp only [Act.put, nzA, nzB, nzC]
      refine gsem 15 (some 39) (.pointer (some ⟨R.t, 0, none⟩)) rfl (by kernel_rfl) (by kernel_rfl) (by kernel_rfl) (fun _ _ _ h => h) (by kernel_rfl) (by kernel_rfl) (fun _ _ => by kernel_rfl) hS0 ?_
      simp only [Act.put, nzA, nzB, nzC]
      have hH7 : Holds (w6.setCells R.t 0 [.slice A6 (R.es.length + 1) c6]) R.t [.slice A6 (R.es.length + 1) c6, .int .i64 R.nx] := hT6.put 0 [.slice A6 (R.es.length + 1) c6] (by simp)
      have hne : w.heap.size ≠ R.t ∧ w.heap.size + 1 ≠ R.t := by omega
      refine wpAnyH_ready (rs := [16]) (by kernel_rfl) (by simp) (gskp 16 none rfl (by kernel_rfl) (by kernel_rfl) (ex_store (t := 46) (vs := [.slice A6 (R.es.length + 1) c6]) rfl rfl rfl rfl (by simp [Value.oneCell']) siz46 hT6 (by simp)) ⟨⟨_, hH7⟩, hk6.block (heap_setCells _ _ _ _ _ hne.1), hd6.block (heap_setCells _ _ _ _ _ hne.2)⟩ ?_ AllReadyH.nil)
      have hF7 : Fr w (w6.setCells R.t 0 [.slice A6 (R.es.length + 1) c6]) R.blocks := (((unhide LL).drew.fr.on bl).trans (Fr.grown hg6) (fun q hq => Or.inl (by unfold RT.blocks; exact List.mem_cons_of_mem _ hq))).trans (Fr.setCells w6 R.t 0 [.slice A6 (R.es.length + 1) c6]) (fun q hq => Or.inl (by obtain rfl : q = R.t := (by simpa using hq); simp [RT.blocks]))
      have hnb : ∀ gg, (Value.slice A6 (R.es.length + 1) c6).ownBlock = some gg → (R.lv.ownBlock = some gg ∨ w.heap.size ≤ gg) ∧ gg ≠ R.t := fresh_blocks hf6 hnr (by have h3 := bl.size; omega) (Nat.lt_of_lt_of_le hsz.2 bl.size)
      have HO7 : Hid ((w6.setCells R.t 0 [.slice A6 (R.es.length + 1) c6]).ownsRow 0 82 21 (.slice A6 (R.es.length + 1) c6) (R.es.length + 1) (flatE R.es ++ (EE.mk k d R.nx).cs)) := hide (own_block ho6 (fun gg hgg => heap_setCells _ _ _ _ _ (hnb gg hgg).2))
      have LQ : Hid (Hq w (w6.setCells R.t 0 [.slice A6 (R.es.length + 1) c6]) R.blocks [(R.t, [.slice A6 (R.es.length + 1) c6, .int .i64 R.nx])]) := hide ⟨hF7, (fun q hq => by obtain rfl : q = (R.t, [.slice A6 (R.es.length + 1) c6, .int .i64 R.nx]) := (by simpa using hq); exact ⟨hH7, Nat.succ_pos _⟩), by simp⟩
      have HNB := hide hnb
      clear hS0 hS1 hT6 hk6 hd6 hH7 ho6 hg6 hf6 hF7 hnb hT1 hO1 hTd hT hO bl hsz hnr
      simp only [Act.put, nzA, nzB, nzC]
      refine wpAnyH_done (by kernel_rfl) ?_ _
      try simp only [Act.put, nzA, nzB, nzC]
      generalize w6.setCells R.t 0 [.slice A6 (R.es.length + 1) c6] = w7 at *
      have hnx1 := (unhide HNX).1
      have hnx2 := (unhide HNX).2
      go_wp2_with (first | go_skip | ((refine rd (by rfl) (ex_load1 3 Tryz.isAgg3 rfl rfl ((unhide LQ).get 0 rfl) rfl) ?_); simp only [Act.put, nzA, nzB, nzC]) | ((refine st (vs := [.int .i64 (R.nx + 1)]) 0 3 (by rfl) rfl rfl rfl rfl (by simp [Value.oneCell']) siz3 (unhide LQ) rfl (by simp) (Or.inl (by simp [RT.blocks])) ?_); intro w8 L8 hf8 hs8; replace LQ := hide L8; have HF8 := hide hf8; clear L8 hf8 hs8; simp only [Act.put, nzA, nzB, nzC]))
      go_ret
      refine ⟨rfl, .slice A6 (R.es.length + 1) c6, ⟨(unhide LQ).get 0 rfl, ?_, ?_⟩, (unhide LQ).fr, fun gg hgg => ((unhide HNB) gg hgg).1⟩
      · show w8.ownsRow 0 82 21 (.slice A6 (R.es.length + 1) c6) (R.es ++ [EE.mk k d R.nx]).length (flatE (R.es ++ [EE.mk k d R.nx]))
        rw [flatE_mid R.es [] ⟨k, d, R.nx⟩, List.length_append]
        have := own_block (w' := w8) (unhide HO7) (fun gg hgg => (unhide HF8).block gg (World.ownsRow.lt (unhide HO7) gg hgg).2 (by simpa using ((unhide HNB) gg hgg).2))
        simpa [flatE] using this
      · show (R.t :: (Value.slice A6 (R.es.length + 1) c6).ownBlock.toList).Nodup
        cases hob : (Value.slice A6 (R.es.length + 1) c6).ownBlock with
        | none => simp
        | some gg =>
          have := ((unhide HNB) gg hob).2
          simp
          exact fun e => this e.symm
