import Derived.Test.YtmfhjbmgbbkicaaDoorHf
namespace Go.Proofs.YtmfhjbmgbbkicaaDoor
open Go Go.Proofs Go.Maps Go.RowKit FM
set_option linter.unusedSimpArgs false
set_option linter.unusedVariables false
set_option maxHeartbeats 1000000
theorem inf38 : (Tryd.prog.info? 38).map (fun i => (i.zero, i.size, i.bytes)) = some (some (.agg zshc.toArray), 8, 88) := by kernel_rfl
/-- A shape of an object without properties, and where its row lies. -/
structure SE where
  p : VV
  A : Option Addr
  c : Nat
def SE.cs (e : SE) : List Value := shc e.p e.A e.c
theorem se_length (e : SE) : e.cs.length = 8 := rfl
theorem HP.Is.ptr {w : World} {n : Nat} {h : HP} (H : h.Is w n) {j : Nat} {o : OB} (hj : h.l[j]? = some o) : ∃ g c, h.gv = .slice (some ⟨g, 0, none⟩) h.l.length c ∧ ∀ X, Fr w X [] → X.cell? ⟨g, 0 + j * 1, none⟩ = some o.ptr := by
  obtain ⟨g, c, h1, h2, h3⟩ := H.cell hj
  refine ⟨g, c, h1, fun X hX => ?_⟩
  have hb := hX.block g h2 (by simp)
  rw [← h3]
  exact World.cell?_of_block (a := ⟨g, 0 + j * 1, none⟩) hb
set_option maxHeartbeats 2000000 in
set_option maxRecDepth 100000 in
theorem shapes7 (h : HP) (n : Nat) (w : World) (H : h.Is w n) : Calls Tryd.prog 7 #[.pointer (some ⟨h.b, 0, none⟩)] w fun e w' => ∃ (es : List SE) (v : Value), e = .returned v ∧ es.map SE.p = h.l.map OB.p ∧ w'.ownsRow w.heap.size 38 8 v es.length (es.flatMap SE.cs) ∧ Below w.heap.size w w' := by
  obtain ⟨A, c, hgv⟩ := H.form
  have HB0 : Hid (∀ X, Fr w X [] → Holds X h.b [.slice A h.l.length c, .int .i64 h.cap, .int .i64 h.fuel, .int .i64 h.depth, .int .i64 0]) := hide (fun X hX => by have := (H.fr hX).blk; unfold hcs at this; rw [hgv] at this; exact this)
  have HL := hide (len8 h n w H)
  have HH := hide H
  have HFEW := hide H.few
  have HGV := hide hgv
  clear H hgv
  go_enter Tryd.func7, Tryd.ntmps7
  go_wp2_with fail
  refine (unhide HL).mono ?_
  rintro _ w1 ⟨rfl, rfl⟩
  go_wp2_with (first | go_skip | ((with_reducible show wpList _ _ _ _ _ _); first | ((refine rd (by rfl) (ex_load1 49 Tryd.isAgg49 rfl rfl (unhide HB0 _ (unhide HF)) rfl) ?_); simp only [Act.put, List.setIfInBounds_toArray, List.set_cons_succ, List.set_cons_zero]) | ((refine rd (by rfl) (ex_lenG 49 55 Tryd.underlying49 rfl rfl) ?_); simp only [Act.put, List.setIfInBounds_toArray, List.set_cons_succ, List.set_cons_zero]) | ((refine mk_any (e := 38) (size := 8) (bytes := 88) h.l.length (by rfl) rfl rfl rfl Tryd.underlying28 inf38 (by have := unhide HFEW; omega) (by omega) (by omega) ?_); intro wm hO hbm; have HO := hide hO; have HF := hide (Fr.of_below hbm []); clear hO hbm; simp only [Act.put, List.setIfInBounds_toArray, List.set_cons_succ, List.set_cons_zero])))
  go_loopg [3, 14] h.l.length (fun gm s3 s14 wr => ∃ (i : Nat) (es : List SE), s14 = .int .i64 (i : Nat) ∧ i ≤ h.l.length ∧ h.l.length - i ≤ gm ∧ es.length = i ∧ Hid (es.map SE.p = (h.l.take i).map OB.p) ∧ Hid (wr.ownsRow w1.heap.size 38 8 s3 es.length (es.flatMap SE.cs)) ∧ Hid (Fr w1 wr []))
  case atStart => exact ⟨0, [], rfl, by omega, by omega, rfl, hide (by simp), HO, HF⟩
  case round =>
    clear HO HF
    obtain ⟨i, es, rfl, hil, hgm, hes, HM, HO, HF⟩ := hrel
    by_cases hlt : i < h.l.length
    · have dlt : decide ((i : Int) < (h.l.length : Int)) = true := decide_eq_true (by omega)
      have hw1 : IntKind.i64.wrap ((i : Int) + 1) = (i : Int) + 1 := by have := unhide HFEW; rw [IntKind.wrap_i64]; omega
      obtain ⟨o, ho⟩ : ∃ o, h.l[i]? = some o := ⟨_, List.getElem?_eq_getElem hlt⟩
      obtain ⟨g, c2, hg, hc⟩ := (unhide HH).ptr ho
      have hgv := unhide HGV
      rw [hg] at hgv
      cases hgv
      have HC := hide hc
      have HOB := hide ((unhide HH).all o (List.mem_of_getElem? ho))
      have HLT := hide hlt
      have HT : Hid ((h.l.take (i + 1)).map OB.p = es.map SE.p ++ [o.p]) := hide (by rw [unhide HM, List.take_add_one, ho]; simp)
      have LL := hide (Hq.nil wr [])
      clear hc ho hlt hil hg
      go_wp2_with (first | go_skip | ((with_reducible show wpList _ _ _ _ _ _); first | ((refine rd (by rfl) (ex_indexG 49 1 i und49 idx49 rfl rfl rfl (unhide HLT)) ?_); simp only [Act.put, List.setIfInBounds_toArray, List.set_cons_succ, List.set_cons_zero]) | ((refine rd (by rfl) (ex_loadC 55 Tryd.isAgg55 rfl rfl (unhide HC _ (unhide HF))) ?_); simp only [Act.put, List.setIfInBounds_toArray, List.set_cons_succ, List.set_cons_zero])))
      refine (shape15 o _ ((unhide HOB).fr (unhide HF))).mono ?_
      rintro e X8 ⟨A8, c8, rfl, hb8⟩
      replace LL := hide ((unhide LL).on hb8)
      clear hb8
      go_wp2_with (first | go_skip | ((with_reducible show wpList _ _ _ _ _ _); first | ((refine build_any (z := .agg zshc.toArray) (size := 8) (bytes := 88) (cs := shc o.p A8 c8) (by rfl) rfl rfl Tryd.underlying28 inf38 (by omega) rfl rfl (by omega) (unhide LL) ?_); intro X10 B10 hE10 L10 hb10; replace LL := hide L10; clear L10 hb10 hE10; simp only [Act.put, List.setIfInBounds_toArray, List.set_cons_succ, List.set_cons_zero]) | ((refine append_any (z := .agg zshc.toArray) (size := 8) (bytes := 88) (n := es.length) (m := 1) (base := w1.heap.size) (news := shc o.p A8 c8) (by rfl) rfl rfl rfl Tryd.underlying28 inf38 rfl (by omega) (own_fr (unhide HO) (unhide LL).fr) ((unhide LL).get 0 rfl) rfl (shc_one o.p A8 c8) (by have := unhide HFEW; have := unhide HLT; omega) (by omega) (Nat.le_trans (unhide HF).size (unhide LL).fr.size) ?_); intro A11 c11 X11 hO11 hg11 hF11; have HNEW := hide hO11; have HF2 : Hid (Fr w1 X11 []) := hide (((unhide HF).trans (unhide LL).fr (by simp)).trans (Fr.grown hg11) (fun b hb => .inr (World.ownsRow.lt (unhide HO) b (Option.mem_toList.1 hb)).1)); clear hO11 hg11 hF11 LL; simp only [Act.put, List.setIfInBounds_toArray, List.set_cons_succ, List.set_cons_zero])))
      go_roundg (h.l.length - (i + 1))
      case measure => have := unhide HLT; omega
      case rel => exact ⟨i + 1, es ++ [⟨o.p, A8, c8⟩], by go_num, by have := unhide HLT; omega, by omega, by simp [hes], hide (by rw [unhide HT, List.map_append]; rfl), hide (by rw [List.length_append, List.flatMap_append]; simpa [SE.cs] using unhide HNEW), HF2⟩
    · obtain rfl : i = h.l.length := by omega
      have HM2 : Hid (es.map SE.p = h.l.map OB.p) := hide (by rw [unhide HM, List.take_length])
      clear hlt hil HM
      go_wp2
      go_ret
      exact ⟨es, _, rfl, unhide HM2, unhide HO, (unhide HF).below⟩
end Go.Proofs.YtmfhjbmgbbkicaaDoor
