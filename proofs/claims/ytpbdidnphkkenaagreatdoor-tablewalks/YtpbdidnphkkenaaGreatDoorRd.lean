import Derived.Test.YtpbdidnphkkenaaGreatDoorRc
set_option linter.all false
namespace Go.Proofs.YtpbdidnphkkenaaGreatDoor
set_option maxHeartbeats 1000000
section
open Go Go.Proofs Go.Maps Go.RowKit
set_option maxRecDepth 100000 in
theorem refPut_bad (R : RT) (k : KK) (d : DD) (w : World) (hR : R.Is w) (hl : R.es.length ≤ 3000000) (hgk : goodK k = false) : Calls Tryz.prog 13 #[.pointer (some ⟨R.t, 0, none⟩), k.agg, d.agg] w fun e w' => e = .returned (.int .i64 5) ∧ R.Is w' ∧ Fr w w' R.blocks := by
  have HR := hide (hR.on (two_below w k.cs.toArray d.cs.toArray 33 39))
  have LL := hide (Hq.two w R.blocks k.cs d.cs 33 39 (Nat.succ_pos _) (Nat.succ_pos _))
  have HC := hide (fun X hX => find36 R k X hX hl)
  have HG := hide (fun X => refGoodK k X)
  have HLT := hide hR.lt
  clear hR
  rw [show k.agg = .agg k.cs.toArray from rfl, show d.agg = .agg d.cs.toArray from rfl]
  go_enter Tryz.func13, Tryz.ntmps13
  go_wp2_with (first | go_skip | ((refine rd (by rfl) (ex_loadN (vs := k.cs) 33 2 row33x siz33 rfl rfl ((unhide LL).get 0 rfl) rfl rfl) ?_); simp only [Act.put, nzA, nzB, nzC]))
  refine ((unhide HG) _).mono ?_
  rintro _ w1 ⟨rfl, hb⟩
  rw [hgk]
  replace LL := hide ((unhide LL).on hb)
  replace HR := hide ((unhide HR).on hb)
  clear hb
  go_wp2
  go_ret
  exact ⟨rfl, unhide HR, (unhide LL).fr⟩
theorem own_holds {w : World} {base e s n g c : Nat} {xs : List Value} (h : w.ownsRow base e s (.slice (some ⟨g, 0, none⟩) n c) n xs) : Holds w g xs := by
  refine ⟨fun j => ?_, fun j u hu => ?_⟩
  · rcases h.2 with ⟨h1, -⟩ | ⟨g', cap, cur, h1, h2, h3, -⟩
    · cases h1
    · cases h1
      simp [World.frozen?, h3]
  · have := h.cells (g := g) rfl j u hu
    rwa [Addr.add_mid] at this
set_option maxRecDepth 100000 in
theorem refPut_some (R : RT) (k : KK) (d : DD) (w : World) (hR : R.Is w) (hl : R.es.length ≤ 3000000) (hgk : goodK k = true) (a b : List EE) (x : EE) (he : R.es = a ++ x :: b) (hf : R.find k = some a.length) : Calls Tryz.prog 13 #[.pointer (some ⟨R.t, 0, none⟩), k.agg, d.agg] w fun e w' => e = .returned (.int .i64 0) ∧ (RT.mk R.t R.lv (a ++ ⟨x.k, d, x.n⟩ :: b) R.nx).Is w' ∧ Fr w w' R.blocks := by
  have HR := hide (hR.on (two_below w k.cs.toArray d.cs.toArray 33 39))
  have LL := hide (Hq.two w R.blocks k.cs d.cs 33 39 (Nat.succ_pos _) (Nat.succ_pos _))
  have HC := hide (fun X hX => find36 R k X hX hl)
  have HG := hide (fun X => refGoodK k X)
  have HLT := hide hR.lt
  obtain ⟨g, cap, hlv⟩ : ∃ g cap, R.lv = .slice (some ⟨g, 0, none⟩) R.es.length cap := by
    rcases hR.own.2 with ⟨h1, h2⟩ | ⟨g, cap, cur, h1, h2⟩
    · rw [he] at h2; simp at h2
    · exact ⟨g, cap, h1⟩
  have hlen : R.es.length = a.length + (b.length + 1) := by rw [he]; simp
  have hi : a.length < R.es.length := by omega
  have hiz : (a.length : Int) < R.es.length := by omega
  have HX : Hid (∀ X, R.Is X → X.ownsRow 0 82 21 (.slice (some ⟨g, 0, none⟩) R.es.length cap) R.es.length (flatE R.es) ∧ Holds X R.t [.slice (some ⟨g, 0, none⟩) R.es.length cap, .int .i64 R.nx]) := hide (fun X hX => ⟨hlv ▸ hX.own, by have := hX.tab; unfold RT.cs at this; rw [hlv] at this; exact this⟩)
  have HND : Hid (g ≠ R.t ∧ g ∈ R.blocks) := hide (by
    have h1 := hR.nd
    have h2 : R.lv.ownBlock = some g := by rw [hlv]; rfl
    unfold RT.blocks at h1 ⊢
    rw [h2] at h1 ⊢
    simp at h1 ⊢
    exact fun e => h1 e.symm)
  have HNDA := hide hR.nd
  have HLV := hide hlv
  have HE := hide he
  rw [hf] at HC
  rw [show fI (some a.length) = (a.length : Int) from rfl] at HC
  clear hf hlv he hlen
  clear hR
  rw [show k.agg = .agg k.cs.toArray from rfl, show d.agg = .agg d.cs.toArray from rfl]
  go_enter Tryz.func13, Tryz.ntmps13
  go_wp2_with (first | go_skip | ((refine rd (by rfl) (ex_loadN (vs := k.cs) 33 2 row33x siz33 rfl rfl ((unhide LL).get 0 rfl) rfl rfl) ?_); simp only [Act.put, nzA, nzB, nzC]))
  refine ((unhide HG) _).mono ?_
  rintro _ w1 ⟨rfl, hb⟩
  rw [hgk]
  replace LL := hide ((unhide LL).on hb)
  replace HR := hide ((unhide HR).on hb)
  clear hb
  go_wp2_with (first | go_skip | ((refine rd (by rfl) (ex_loadN (vs := k.cs) 33 2 row33x siz33 rfl rfl ((unhide LL).get 0 rfl) rfl rfl) ?_); simp only [Act.put, nzA, nzB, nzC]))
  refine ((unhide HC) _ (unhide HR)).mono ?_
  rintro _ w2 ⟨rfl, hb⟩
  replace LL := hide ((unhide LL).on hb)
  replace HR := hide ((unhide HR).on hb)
  clear hb
  go_wp2
  obtain ⟨hO, hT⟩ := (unhide HX) _ (unhide HR)
  refine wp_region_held_drew (P := Tryz.prog) (S := fun X => Holds X R.t [.slice (some ⟨g, 0, none⟩) R.es.length cap, .int .i64 R.nx] ∧ Holds X (w.heap.size + 1) d.cs) (by kernel_rfl) ⟨hT.block rfl, ((unhide LL).get 1 rfl).block rfl⟩ (fun hS0 => ?_)
  refine gsem 0 (some 16) (.pointer (some ⟨R.t, 0, none⟩)) rfl (by kernel_rfl) (by kernel_rfl) (by kernel_rfl) (fun _ _ _ h => h) (by kernel_rfl) (by kernel_rfl) (fun _ _ => by kernel_rfl) hS0 ?_
  simp only [Act.put, nzA, nzB, nzC]
  refine gsem 1 (some 17) (.pointer (some ⟨R.t, 0, none⟩)) rfl (by kernel_rfl) (by kernel_rfl) (by kernel_rfl) (fun _ _ _ h => h) (by kernel_rfl) (by kernel_rfl) (fun _ _ => by kernel_rfl) hS0 ?_
  simp only [Act.put, nzA, nzB, nzC]
  refine gsem 2 (some 18) (.pointer (some ⟨R.t, 0, none⟩)) rfl (by kernel_rfl) (by kernel_rfl) (by kernel_rfl) (fun _ _ _ h => h) (by kernel_rfl) (by kernel_rfl) (fun _ _ => by kernel_rfl) hS0 ?_
  simp only [Act.put, nzA, nzB, nzC]
  refine gsem 3 (some 19) (.slice (some ⟨g, 0, none⟩) R.es.length cap) rfl (by kernel_rfl) (by kernel_rfl) (by kernel_rfl) (fun _ _ _ h => h) (by kernel_rfl) (by kernel_rfl) (fun X hX => ex_load1 46 Tryz.isAgg46 rfl rfl (hX.1) rfl) hS0 ?_
  simp only [Act.put, nzA, nzB, nzC]
  refine gsem 4 (some 20) (.int .i64 (a.length : Nat)) rfl (by kernel_rfl) (by kernel_rfl) (by kernel_rfl) (fun _ _ _ h => h) (by kernel_rfl) (by kernel_rfl) (fun _ _ => by kernel_rfl) hS0 ?_
  simp only [Act.put, nzA, nzB, nzC]
  refine gsem 5 (some 21) (d.agg) rfl (by kernel_rfl) (by kernel_rfl) (by kernel_rfl) (fun _ _ _ h => h) (by kernel_rfl) (by kernel_rfl) (fun X hX => ex_loadN (vs := d.cs) 39 18 row39 siz39 rfl rfl (hX.2) rfl rfl) hS0 ?_
  simp only [Act.put, nzA, nzB, nzC]
  refine gsem 6 (some 22) (.pointer (some ⟨g, a.length * 21, none⟩)) rfl (by kernel_rfl) (by kernel_rfl) (by kernel_rfl) (fun _ _ _ h => h) (by kernel_rfl) (by kernel_rfl) (fun X hX => ex_index46 (x := .tmp 19) (ix := .tmp 20) a.length rfl rfl rfl hi) hS0 ?_
  simp only [Act.put, nzA, nzB, nzC]
  refine gsem 7 (some 23) (.pointer (some ⟨g, a.length * 21 + 2, none⟩)) rfl (by kernel_rfl) (by kernel_rfl) (by kernel_rfl) (fun _ _ _ h => h) (by kernel_rfl) (by kernel_rfl) (fun _ _ => by kernel_rfl) hS0 ?_
  simp only [Act.put, nzA, nzB, nzC]
  have hH : Holds w2.drew g (flatE R.es) := (own_holds hO).block rfl
  have hfl : a.length * 21 + 2 + d.cs.length ≤ (flatE R.es).length := by rw [flatE_len, dcs_length]; omega
  have hnd := unhide HND
  have hgl : g < w.heap.size := (unhide HLT) g hnd.2
  have hS1 : Holds (w2.drew.setCells g (a.length * 21 + 2) d.cs) R.t [.slice (some ⟨g, 0, none⟩) R.es.length cap, .int .i64 R.nx] ∧ Holds (w2.drew.setCells g (a.length * 21 + 2) d.cs) (w.heap.size + 1) d.cs := ⟨hS0.1.block (heap_setCells _ _ _ _ _ (Ne.symm hnd.1)), hS0.2.block (heap_setCells _ _ _ _ _ (by omega))⟩
  refine wpAnyH_ready (rs := [8]) (by kernel_rfl) (by simp) (gskp 8 none rfl (by kernel_rfl) (by kernel_rfl) (ex_store (t := 39) (vs := d.cs) rfl rfl rfl rfl (by simp [DD.cs, VV.cs, Value.oneCell']) siz39 hH hfl) hS1 ?_ AllReadyH.nil)
  have HO2 := hide (own_set (own_block (w' := w2.drew) hO (fun _ _ => rfl)) hfl)
  have HT2 := hide hS1.1
  have HF2 := hide ((unhide LL).drew.fr.trans (Fr.setCells w2.drew g (a.length * 21 + 2) d.cs) (fun q hq => Or.inl (by obtain rfl : q = g := (by simpa using hq); exact hnd.2)))
  clear hO hT hS0 hS1 hH
  simp only [Act.put, nzA, nzB, nzC]
  refine wpAnyH_done (by kernel_rfl) ?_ _
  try simp only [Act.put, nzA, nzB, nzC]
  generalize w2.drew.setCells g (a.length * 21 + 2) d.cs = w3 at *
  go_wp2
  go_ret
  refine ⟨rfl, ⟨?_, ?_, ?_⟩, unhide HF2⟩
  · show Holds w3 R.t [R.lv, .int .i64 R.nx]
    rw [unhide HLV]
    exact unhide HT2
  · show w3.ownsRow 0 82 21 R.lv (a ++ ⟨x.k, d, x.n⟩ :: b).length (flatE (a ++ ⟨x.k, d, x.n⟩ :: b))
    rw [flatE_set a b x d, unhide HLV, ← unhide HE]
    have e1 : (a ++ (⟨x.k, d, x.n⟩ : EE) :: b).length = R.es.length := by rw [unhide HE]; simp
    rw [e1]
    exact unhide HO2
  · exact unhide HNDA
