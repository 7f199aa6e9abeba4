import Derived.Test.YtmemceindohklaaDoorQo
import Derived.Test.YtmemceindohklaaDoorQq
import Derived.Test.YtmemceindohklaaDoorQr
import Derived.Test.YtmemceindohklaaDoorQw
import Derived.Test.YtmemceindohklaaDoorQv

/-! Ua -/
namespace Go.Proofs.YtmemceindohklaaDoor
open Go Go.Proofs Go.Maps Go.RowKit
set_option linter.unusedSimpArgs false
set_option linter.unusedVariables false
set_option maxHeartbeats 1000000
set_option linter.unusedSimpArgs false
set_option linter.unusedVariables false
set_option maxHeartbeats 1000000
/-- make of a slice of length nought. -/
theorem mk_anyB {ops : Array Oper} {rest : List Oper} {Q : Exit → Act → World → Prop} {w : World} {a : Act} {o : Oper} {t e : TypeId} {size bytes : Nat} {z : Value} {c x : Operand} (n : Nat) (hw : Region.wanted o (yielded ops a.tmps) = true) (ho : o.op = .makeSlice t c x) (hc : a.eval c = .int .i64 0) (hx : a.eval x = .int .i64 (n : Nat))
    (ht : Tryd.prog.underlying t = some (.slice e)) (hi : (Tryd.prog.info? e).map (fun i => (i.zero, i.size, i.bytes)) = some (some z, size, bytes)) (hn : n ≤ 300000) (hs : size ≤ 50) (hby : bytes ≤ 10000)
    (h : ∀ wm, wm.ownsRow w.heap.size e size (.slice (some ⟨w.heap.size, 0, none⟩) 0 n) 0 [] → Below w.heap.size w wm → wpList Tryd.prog ops Q rest (a.put o.dst (.slice (some ⟨w.heap.size, 0, none⟩) 0 n)) wm) : wpList Tryd.prog ops Q (o :: rest) a w := by
  obtain ⟨i0, hi, hz0, hz1, hz2⟩ := info_parts hi
  obtain ⟨wm, hrun, hm1, hm2⟩ := run_makeSlice_owned (P := Tryd.prog) w w.heap.size t e i0 _ size ht hi hz0 hz1 .i64 .i64 n (Nat.le_trans (Nat.mul_le_mul hn hs) (by decide)) (by rw [hz2]; exact Nat.le_trans (Nat.mul_le_mul hby hn) (by decide)) (by unfold maxLen; omega) (Nat.le_refl _)
  refine BigFrame.wpList_want hw fun K hK => ?_
  have hP := hK _ _ (h wm hm1 ⟨hm2.os, hm2.tape, hm2.output, hm2.size, fun k hk => hm2.block k hk (by simp)⟩)
  unfold Oper.wp execOp
  simp only [ho, hc, hx]
  simp [hrun]
  exact hP
set_option maxRecDepth 100000 in
theorem closeGaps39B (T : TT) (w : World) (hT : T.Is w) (hl : T.last < 300000) : Calls Tryd.prog 31 #[.pointer (some ⟨T.t, 0, none⟩)] w fun e w' => e = .returned (.tuple #[]) ∧ ∃ rv, (T.packed T.m rv).Is w' ∧ Fr w w' [T.t] ∧ (∀ g, rv.ownBlock = some g → T.rv.ownBlock = some g ∨ w.heap.size ≤ g) := by
  have hlen := hT.len
  have C38 := hide (gaps38 T w hT (by omega))
  by_cases h0 : T.rows.length - T.live.length = 0
  · rw [h0] at C38
    have HT := hide hT
    have he : T.packed T.m T.rv = T := by
      unfold TT.packed
      rw [TT.live_rows h0]
    clear hT hlen hl h0
    go_enter Tryd.func31, Tryd.ntmps31
    go_wp2_with fail
    refine (unhide C38).mono ?_
    rintro _ w1 ⟨rfl, hb⟩
    have HB := hide hb
    clear hb
    go_wp2
    refine bodyPost_ret (results_none rfl _ _ _) rfl ?_
    exact ⟨rfl, T.rv, by rw [he]; exact (unhide HT).on (unhide HB), Fr.of_below (unhide HB) _, fun g hg => .inl hg⟩
  · have hpos : 0 < T.rows.length := by omega
    obtain ⟨A, c, hrv⟩ := own_form hT.own
    have hown : ∀ X, T.Is X → X.ownsRow 0 72 1 (.slice A (T.rows.map (·.b)).length c) (T.rows.map (·.b)).length (ptrs (T.rows.map (·.b))) := fun X hX => hrv ▸ hX.own
    obtain ⟨g, rfl, -, -⟩ := own_some (hown w hT) (by simpa using hpos)
    obtain ⟨n, hn⟩ : ∃ n, n = T.rows.length := ⟨_, rfl⟩
    obtain ⟨gp, hgp⟩ : ∃ gp, gp = T.rows.length - T.live.length := ⟨_, rfl⟩
    rw [← hgp] at C38
    have hgz : ¬ ((gp : Nat) : Int) = 0 := by omega
    have HV : Hid (∀ X, T.Is X → Holds X T.t [.map (some T.m), .slice (some ⟨g, 0, none⟩) n c, .int .u64 T.last]) := hide (fun X hX => by
      have := hX.tab
      unfold TT.cs at this
      rw [hrv, List.length_map, ← hn] at this
      exact this)
    have HG : Hid (∀ X, T.Is X → Holds X g (ptrs (T.rows.map (·.b)))) := hide (fun X hX => own_holds (hown X hX))
    have hlv : T.live.length ≤ 300000 := by have := T.live_le; omega
    have HRV := hide hrv
    have HT := hide hT
    have HLT := hide hT.lt
    have HAP := hide (TT.apart hT.nd)
    have hn1 : n ≤ 300000 := by omega
    have Hn := hide hn
    obtain ⟨lv, hlv'⟩ : ∃ lv, lv = T.live.length := ⟨_, rfl⟩
    have HML : Hid (∀ X, T.Is X → MapIs X T.m T.last lv (fun k => (T.find k).map (·.b))) := hide (fun X hX => hlv' ▸ hX.map)
    have hlv2 : lv ≤ 300000 := by omega
    clear hT hlen hl h0 hpos hrv hown hn hgp hlv hlv'
    go_enter Tryd.func31, Tryd.ntmps31
    go_wp2_with fail
    refine (unhide C38).mono ?_
    rintro _ w1 ⟨rfl, hb⟩
    have HB := hide hb
    have HT1 := hide ((unhide HT).on hb)
    clear hb
    obtain ⟨w2, hw2⟩ : ∃ w2, w2 = w1 := ⟨_, rfl⟩
    replace HT := HT1
    go_wp2_with (first | go_skip | ((with_reducible show wpList _ _ _ _ _ _); first | ((refine rd (by rfl) (ex_load1 67 Tryd.isAgg67 rfl rfl ((unhide HV) _ (unhide HT)) rfl) ?_); simp only [Act.put, List.setIfInBounds_toArray, List.set_cons_succ, List.set_cons_zero]) | ((refine rd (by rfl) (ex_len rfl rfl ((unhide HML) _ (unhide HT))) ?_); simp only [Act.put, List.setIfInBounds_toArray, List.set_cons_succ, List.set_cons_zero]) | ((refine rd (by rfl) (ex_load1 68 Tryd.isAgg68 rfl rfl ((unhide HV) _ (unhide HT)) rfl) ?_); simp only [Act.put, List.setIfInBounds_toArray, List.set_cons_succ, List.set_cons_zero]) | ((refine mk_anyB (t := 68) (e := 72) (size := 1) (bytes := 8) (z := .pointer none) lv (by rfl) rfl rfl rfl Tryd.underlying68 info74 hlv2 (by decide) (by decide) ?_); intro wm hO hb; replace HT := hide ((unhide HT).on hb); have HC : Hid (CG w1 wm (.slice (some ⟨w1.heap.size, 0, none⟩) 0 lv) []) := hide ⟨hO, hb⟩; clear hO hb; simp only [Act.put, List.setIfInBounds_toArray, List.set_cons_succ, List.set_cons_zero])))
    clear hgz C38
    go_loopg [2, 4, 19] n (fun gm s2 s4 s19 wr => ∃ j : Nat, s19 = .int .i64 j ∧ j ≤ n ∧ n - j ≤ gm ∧ Hid (CG w1 wr s2 (standing (T.rows.take j))))
    case atStart => exact ⟨0, rfl, by omega, by omega, HC⟩
    case round =>
      obtain ⟨j, rfl, hj, hg, HR⟩ := hrel
      have HTr := hide ((unhide HT1).on (unhide HR).2)
      by_cases hjl : j < n
      · have hjz : (j : Int) < n := by omega
        have hjr : j < T.rows.length := by have := unhide Hn; omega
        obtain ⟨r, hr⟩ : ∃ r, r = T.rows[j] := ⟨_, rfl⟩
        have HP : Hid ((ptrs (T.rows.map (·.b)))[0 + j]? = some (.pointer (some ⟨r.b, 0, none⟩))) := hide (by rw [hr]; exact ptrs_get T.rows j hjr)
        have HRr := hide ((unhide HTr).rows r (hr ▸ List.getElem_mem hjr))
        have HST := hide (standing_take hjr)
        rw [← hr] at HST
        cases hgn : r.gone with
        | true =>
          have HR2 : Hid (Holds wr r.b (r.k.cs ++ (r.d.cs ++ [.int .u64 r.n, .bool true]))) := hide (hgn ▸ unhide HRr)
          replace HR : Hid (CG w1 wr u2 (standing (T.rows.take (j + 1)))) := hide (by rw [unhide HST, hgn]; exact unhide HR)
          clear hr hgn HRr HST
          go_wp2_with (first | go_skip | ((with_reducible show wpList _ _ _ _ _ _); first | ((refine rd (by rfl) (ex_index70 (off := 0) j rfl rfl rfl hjl) ?_); simp only [Act.put, List.setIfInBounds_toArray, List.set_cons_succ, List.set_cons_zero]) | ((refine rd (by rfl) (ex_load1 72 Tryd.isAgg72 rfl rfl ((unhide HG) _ (unhide HTr)) (unhide HP)) ?_); simp only [Act.put, List.setIfInBounds_toArray, List.set_cons_succ, List.set_cons_zero]) | ((refine rd (by rfl) (ex_load1 4 Tryd.isAgg4 rfl rfl (unhide HR2) rfl) ?_); simp only [Act.put, List.setIfInBounds_toArray, List.set_cons_succ, List.set_cons_zero])))
          go_roundg (n - (j + 1))
          case measure => omega
          case rel => exact ⟨j + 1, by go_num, by omega, Nat.le_refl _, HR⟩
        | false =>
          have HR2 : Hid (Holds wr r.b (r.k.cs ++ (r.d.cs ++ [.int .u64 r.n, .bool false]))) := hide (hgn ▸ unhide HRr)
          have HST2 : Hid (standing (T.rows.take (j + 1)) = standing (T.rows.take j) ++ [r]) := hide (by rw [unhide HST, hgn]; rfl)
          have hsl : Hid ((standing (T.rows.take j)).length + 1 ≤ 1000000) := hide (by have h1 := standing_len (T.rows.take j); rw [List.length_take] at h1; omega)
          clear hr hgn HRr HST
          go_wp2_with (first | go_skip | ((with_reducible show wpList _ _ _ _ _ _); first | ((refine rd (by rfl) (ex_index70 (off := 0) j rfl rfl rfl hjl) ?_); simp only [Act.put, List.setIfInBounds_toArray, List.set_cons_succ, List.set_cons_zero]) | ((refine rd (by rfl) (ex_load1 72 Tryd.isAgg72 rfl rfl ((unhide HG) _ (unhide HTr)) (unhide HP)) ?_); simp only [Act.put, List.setIfInBounds_toArray, List.set_cons_succ, List.set_cons_zero]) | ((refine rd (by rfl) (ex_load1 4 Tryd.isAgg4 rfl rfl (unhide HR2) rfl) ?_); simp only [Act.put, List.setIfInBounds_toArray, List.set_cons_succ, List.set_cons_zero]) | ((refine build_any (t := 68) (e := 72) (size := 1) (bytes := 8) (z := .pointer none) (cs := [.pointer (some ⟨r.b, 0, none⟩)]) (by rfl) rfl rfl Tryd.underlying68 info74 (by decide) rfl rfl (by decide) (Hq.nil wr []) ?_); intro w5 B5 hB5 L5 hb5; have LL := hide L5; have HR5 : Hid (CG w1 w5 u2 (standing (T.rows.take j))) := hide ⟨own_block (unhide HR).1 (fun b hb => hb5.block b (World.ownsRow.lt (unhide HR).1 b hb).2), (unhide HR).2.trans (hb5.mono (unhide HR).2.size)⟩; clear L5 hb5 hB5; simp only [Act.put, List.setIfInBounds_toArray, List.set_cons_succ, List.set_cons_zero]) | ((refine append_any (v := u2) rfl rfl rfl rfl Tryd.underlying68 info74 rfl (by decide) (unhide HR5).1 ((unhide LL).get 0 rfl) rfl (by simp [Value.oneCell']) (unhide hsl) (by decide) (unhide HR5).2.size ?_); intro A6 c6 w6 ho6 hg6 hf6; have HR6 : Hid (CG w1 w6 (.slice A6 ((standing (T.rows.take j)).length + 1) c6) (standing (T.rows.take (j + 1)))) := hide ⟨by rw [unhide HST2, ptrs_one, List.length_append]; exact ho6, (((Fr.of_below (unhide HR5).2 []).trans (Fr.grown hg6) (fun b hb => Or.inr (World.ownsRow.lt (unhide HR5).1 b (by simpa using hb)).1)).below)⟩; clear ho6 hg6 hf6; simp only [Act.put, List.setIfInBounds_toArray, List.set_cons_succ, List.set_cons_zero])))
          go_roundg (n - (j + 1))
          case measure => omega
          case rel => exact ⟨j + 1, by go_num, by omega, Nat.le_refl _, HR6⟩
      · have hjz : ¬ (j : Int) < n := by omega
        have hst : standing (T.rows.take j) = T.live := by
          have : j = T.rows.length := by have := unhide Hn; omega
          rw [this, List.take_length]
          rfl
        rw [hst] at HR
        obtain ⟨A6, c6, rfl⟩ := own_form (unhide HR).1
        have HBr := hide ((unhide HB).trans ((unhide HR).2.mono (unhide HB).size))
        have hts : T.t < w.heap.size := (unhide HLT) T.t (by simp [TT.blocks])
        have hws := (unhide HB).size
        clear hst
        go_wp2_with (first | go_skip | ((with_reducible show wpList _ _ _ _ _ _); first | ((with_reducible apply stx (t := 68) (b := T.t) (p := 1) (cs := [.map (some T.m), .slice (some ⟨g, 0, none⟩) n c, .int .u64 T.last]) (vs := [.slice A6 T.live.length c6]) (v := .slice A6 T.live.length c6)); (case hw => rfl); (case ho => rfl); (case hx => rfl); (case hy => rfl); (case hv => exact rfl); (case h1 => exact (by simp [Value.oneCell'])); (case hi => exact siz70); (case hH => exact (unhide HV) _ (unhide HTr)); (case hp => exact (by simp)); simp only [Act.put, List.setIfInBounds_toArray, List.set_cons_succ, List.set_cons_zero])))
        go_end0
        refine ⟨rfl, .slice A6 T.live.length c6, ?_, (Fr.of_below (unhide HBr) [T.t]).trans (Fr.setCells _ _ _ _) (fun b hb => .inl hb), fun b hb => .inr ?_⟩
        · have hap := unhide HAP
          have hne : ∀ b, b ≠ T.t → (wr.setCells T.t 1 [.slice A6 T.live.length c6]).heap[b]? = wr.heap[b]? := fun b hb => heap_setCells _ _ _ _ _ hb
          refine TT.Is.pack (unhide HT1) ((((unhide HV) _ (unhide HTr)).put 1 [.slice A6 T.live.length c6] (by simp))) ((unhide HTr).map.block (hne _ hap.tm.symm)) ?_ (fun r hr => ((unhide HTr).rows r (List.mem_filter.1 hr).1).block (hne _ (fun e => hap.tr (e ▸ List.mem_map.2 ⟨r, (List.mem_filter.1 hr).1, rfl⟩)))) (.inl rfl) (fun b hb => ?_)
          · have h1 := own_block (w' := wr.setCells T.t 1 [.slice A6 T.live.length c6]) (unhide HR).1 (fun b hb => hne b (by have := (World.ownsRow.lt (unhide HR).1 b hb).1; omega))
            unfold OwnP
            rw [List.length_map]
            exact own_mono h1 (Nat.zero_le _)
          · have h2 := (World.ownsRow.lt (unhide HR).1 b hb).1
            refine ⟨.inr (fun hm => ?_), fun e => ?_⟩
            · have := (unhide HLT) b hm
              omega
            · have := (unhide HLT) T.m (by simp [TT.blocks])
              omega
        · have h2 := (World.ownsRow.lt (unhide HR).1 b hb).1
          omega
set_option maxRecDepth 100000 in
theorem compact18B (T : TT) (w : World) (hT : T.Is w) (hl : T.last < 300000) : Calls Tryd.prog 15 #[.pointer (some ⟨T.t, 0, none⟩)] w fun e w' => e = .returned (.tuple #[]) ∧ ∃ m rv, (T.packed m rv).Is w' ∧ Fr w w' [T.t] ∧ (∀ b ∈ (T.packed m rv).blocks, b ∈ T.blocks ∨ w.heap.size ≤ b) := by
  have C39 := hide (closeGaps39B T w hT hl)
  have HT := hide hT
  have hlen := hT.len
  have hlv := T.live_le
  obtain ⟨n, hn⟩ : ∃ n, n = T.live.length := ⟨_, rfl⟩
  have hn1 : n ≤ 300000 := by omega
  have hnl : Hid (n ≤ T.last) := hide (by omega)
  have Hn := hide hn
  clear hT hlen hlv hl hn
  go_enter Tryd.func15, Tryd.ntmps15
  go_wp2_with fail
  refine (unhide C39).mono ?_
  clear C39
  rintro _ w1 ⟨rfl, rv, hT1, hf1, hb1⟩
  obtain ⟨A, c, hrv⟩ := own_form hT1.own
  replace hrv : rv = .slice A n c := by
    rw [unhide Hn]
    simpa [TT.packed] using hrv
  subst hrv
  have HV : Hid (Holds w1 T.t [.map (some T.m), .slice A n c, .int .u64 T.last]) := hide hT1.tab
  have HT1 := hide hT1
  have HF1 := hide hf1
  have HB1 := hide hb1
  have HAP := hide (TT.apart hT1.nd)
  have htl : Hid (T.t < w1.heap.size) := hide (hT1.lt T.t (by simp [TT.blocks, TT.packed]))
  clear hT1 hf1 hb1
  go_wp2_with (first | go_skip | ((with_reducible show wpList _ _ _ _ _ _); first | ((refine rd (by rfl) (ex_load1 68 Tryd.isAgg68 rfl rfl (unhide HV) rfl) ?_); simp only [Act.put, List.setIfInBounds_toArray, List.set_cons_succ, List.set_cons_zero]) | ((refine rdw (by rfl) (ex_mm rfl rfl) ?_); obtain ⟨M, hM⟩ : ∃ M, M = w1.heap.size := ⟨_, rfl⟩; obtain ⟨w2, hw2⟩ : ∃ w2, w2 = w1.alloc (.map #[] 0) := ⟨_, rfl⟩; have HM := hide hM; have hb2 : Below w1.heap.size w1 w2 := (by rw [hw2]; exact (Below.refl _ _).alloc (Nat.le_refl _) _); have HMP : Hid (MapIs w2 M 0 0 (fnd (T.live.take 0))) := hide (by rw [hw2, hM]; exact MapIs.made w1); rw [← hw2, ← hM]; replace HV := hide ((unhide HV).block (hb2.block T.t (unhide htl))); have HB2 := hide hb2; clear hw2 hM hb2; simp only [Act.put, List.setIfInBounds_toArray, List.set_cons_succ, List.set_cons_zero]) | ((with_reducible apply stx (t := 67) (b := T.t) (p := 0) (cs := [.map (some T.m), .slice A n c, .int .u64 T.last]) (vs := [.map (some M)]) (v := .map (some M))); (case hw => rfl); (case ho => rfl); (case hx => rfl); (case hy => rfl); (case hv => exact rfl); (case h1 => exact (by simp [Value.oneCell'])); (case hi => exact siz69); (case hH => exact unhide HV); (case hp => exact (by simp)); (obtain ⟨w3, hw3⟩ : ∃ w3, w3 = w2.setCells T.t 0 [.map (some M)] := ⟨_, rfl⟩); (have HC : Hid (CPk T w1 w3 A n c M 0) := hide ⟨(by rw [hw3]; exact (unhide HV).put 0 [.map (some M)] (by simp)), (by rw [hw3]; exact (unhide HMP).block (heap_setCells _ _ _ _ _ (by have h1 := unhide HM; have h2 := unhide htl; omega))), (by rw [hw3]; exact (Fr.of_below (unhide HB2) [T.t]).trans (Fr.setCells _ _ _ _) (fun b hb => .inl hb))⟩); rw [← hw3]; replace HV := hide (unhide HC).tab; clear hw3; simp only [Act.put, List.setIfInBounds_toArray, List.set_cons_succ, List.set_cons_zero])))
  clear HV HMP HB2
  go_loopg [3, 20] n (fun gm s3 s20 wr => ∃ j : Nat, s20 = .int .i64 j ∧ j ≤ n ∧ n - j ≤ gm ∧ Hid (CPk T w1 wr A n c M j))
  case atStart => exact ⟨0, rfl, by omega, by omega, HC⟩
  case round =>
    obtain ⟨j, rfl, hj, hg, HR⟩ := hrel
    by_cases hjl : j < n
    · have hjz : (j : Int) < n := by omega
      have hjr : j < T.live.length := by have := unhide Hn; omega
      have hown : w1.ownsRow 0 72 1 (.slice A (T.live.map (·.b)).length c) (T.live.map (·.b)).length (ptrs (T.live.map (·.b))) := by
        have h1 := (unhide HT1).own
        have e := unhide Hn
        unfold OwnP TT.packed at h1
        simp only at h1
        rw [List.length_map, ← e] at h1 ⊢
        exact h1
      obtain ⟨g, rfl, -, hgl⟩ := own_some hown (by simp; omega)
      have hgt : g ≠ T.t := ((unhide HAP).tv g rfl).1
      have HG : Hid (Holds wr g (ptrs (T.live.map (·.b)))) := hide ((own_holds hown).block ((unhide HR).fr.block g hgl (by simpa using hgt)))
      obtain ⟨r, hr⟩ : ∃ r, r = T.live[j] := ⟨_, rfl⟩
      have hrm : r ∈ T.live := hr ▸ List.getElem_mem hjr
      have HP : Hid ((ptrs (T.live.map (·.b)))[0 + j]? = some (.pointer (some ⟨r.b, 0, none⟩))) := hide (by rw [hr]; exact ptrs_get T.live j hjr)
      have hrt : r.b ≠ T.t := fun e => (unhide HAP).tr (e ▸ List.mem_map.2 ⟨r, hrm, rfl⟩)
      have hrl := ((unhide HT1).rows r hrm).lt (by simp [rcs_length])
      have HRr : Hid (Holds wr r.b r.cs) := hide (((unhide HT1).rows r hrm).block ((unhide HR).fr.block r.b hrl (by simpa using hrt)))
      have HOK := hide (good_ok ((unhide HT).good r hrm))
      have HFN := hide (fnd_take (unhide HT).keys hjr)
      rw [← hr] at HFN
      have HMr : Hid (T.t ≠ M ∧ r.b ≠ M) := hide ⟨by have h1 := unhide HM; have h2 := unhide htl; omega, by have h1 := unhide HM; omega⟩
      have hjM : Hid (j < maxLen) := hide (by unfold maxLen; omega)
      clear hr hrm hrt hrl hown hgt hgl
      go_wp2_with (first | go_skip | ((with_reducible show wpList _ _ _ _ _ _); first | ((refine rd (by rfl) (ex_index70 (off := 0) j rfl rfl rfl hjl) ?_); simp only [Act.put, List.setIfInBounds_toArray, List.set_cons_succ, List.set_cons_zero]) | ((refine rd (by rfl) (ex_load1 72 Tryd.isAgg72 rfl rfl (unhide HG) (unhide HP)) ?_); simp only [Act.put, List.setIfInBounds_toArray, List.set_cons_succ, List.set_cons_zero])))
      refine wp_region_held_drew (P := Tryd.prog) (S := fun X => Holds X T.t [.map (some M), .slice (some ⟨g, 0, none⟩) n c, .int .u64 T.last] ∧ Holds X r.b r.cs) (by kernel_rfl) ⟨(unhide HR).tab.block rfl, (unhide HRr).block rfl⟩ (fun hS0 => ?_)
      refine gsem 0 (some 24) (.pointer (some ⟨T.t, 0, none⟩)) rfl (by kernel_rfl) (by kernel_rfl) (by kernel_rfl) (fun _ _ _ h => h) (by kernel_rfl) (by kernel_rfl) (fun _ _ => by kernel_rfl) hS0 ?_
      simp only [Act.put, List.setIfInBounds_toArray, List.set_cons_succ, List.set_cons_zero]
      refine gsem 1 (some 25) (.pointer (some ⟨T.t, 0, none⟩)) rfl (by kernel_rfl) (by kernel_rfl) (by kernel_rfl) (fun _ _ _ h => h) (by kernel_rfl) (by kernel_rfl) (fun _ _ => by kernel_rfl) hS0 ?_
      simp only [Act.put, List.setIfInBounds_toArray, List.set_cons_succ, List.set_cons_zero]
      refine gsem 2 (some 26) (.pointer (some ⟨T.t, 0, none⟩)) rfl (by kernel_rfl) (by kernel_rfl) (by kernel_rfl) (fun _ _ _ h => h) (by kernel_rfl) (by kernel_rfl) (fun _ _ => by kernel_rfl) hS0 ?_
      simp only [Act.put, List.setIfInBounds_toArray, List.set_cons_succ, List.set_cons_zero]
      refine gsem 3 (some 27) (.map (some M)) rfl (by kernel_rfl) (by kernel_rfl) (by kernel_rfl) (fun _ _ _ h => h) (by kernel_rfl) (by kernel_rfl) (fun X hX => ex_load1 67 Tryd.isAgg67 rfl rfl (hX.1) rfl) hS0 ?_
      simp only [Act.put, List.setIfInBounds_toArray, List.set_cons_succ, List.set_cons_zero]
      refine gsem 4 (some 28) (.pointer (some ⟨r.b, 0, none⟩)) rfl (by kernel_rfl) (by kernel_rfl) (by kernel_rfl) (fun _ _ _ h => h) (by kernel_rfl) (by kernel_rfl) (fun _ _ => by kernel_rfl) hS0 ?_
      simp only [Act.put, List.setIfInBounds_toArray, List.set_cons_succ, List.set_cons_zero]
      refine gsem 5 (some 29) (.pointer (some ⟨r.b, 0, none⟩)) rfl (by kernel_rfl) (by kernel_rfl) (by kernel_rfl) (fun _ _ _ h => h) (by kernel_rfl) (by kernel_rfl) (fun _ _ => by kernel_rfl) hS0 ?_
      simp only [Act.put, List.setIfInBounds_toArray, List.set_cons_succ, List.set_cons_zero]
      refine gsem 6 (some 30) (.pointer (some ⟨r.b, 0, none⟩)) rfl (by kernel_rfl) (by kernel_rfl) (by kernel_rfl) (fun _ _ _ h => h) (by kernel_rfl) (by kernel_rfl) (fun _ _ => by kernel_rfl) hS0 ?_
      simp only [Act.put, List.setIfInBounds_toArray, List.set_cons_succ, List.set_cons_zero]
      refine gsem 7 (some 31) (.pointer (some ⟨r.b, 0, none⟩)) rfl (by kernel_rfl) (by kernel_rfl) (by kernel_rfl) (fun _ _ _ h => h) (by kernel_rfl) (by kernel_rfl) (fun _ _ => by kernel_rfl) hS0 ?_
      simp only [Act.put, List.setIfInBounds_toArray, List.set_cons_succ, List.set_cons_zero]
      refine gsem 8 (some 32) (r.k.agg) rfl (by kernel_rfl) (by kernel_rfl) (by kernel_rfl) (fun _ _ _ h => h) (by kernel_rfl) (by kernel_rfl) (fun X hX => ex_loadN (vs := r.k.cs) 34 2 row33x siz33 rfl rfl (hX.2) rfl rfl) hS0 ?_
      simp only [Act.put, List.setIfInBounds_toArray, List.set_cons_succ, List.set_cons_zero]
      refine gsem 9 (some 33) (.pointer (some ⟨r.b, 0, none⟩)) rfl (by kernel_rfl) (by kernel_rfl) (by kernel_rfl) (fun _ _ _ h => h) (by kernel_rfl) (by kernel_rfl) (fun _ _ => by kernel_rfl) hS0 ?_
      simp only [Act.put, List.setIfInBounds_toArray, List.set_cons_succ, List.set_cons_zero]
      refine wpAnyH_ready (rs := [10]) (by kernel_rfl) (by simp) (gupd (r := r.b) 10 rfl (by kernel_rfl) (by kernel_rfl) rfl rfl rfl rfl ((unhide HR).map.block rfl) (unhide HOK) (unhide hjM) (fun X hX => ⟨hS0.1.block (hX.block T.t (hS0.1.lt (by simp)) (by simpa using (unhide HMr).1)), hS0.2.block (hX.block r.b (hS0.2.lt (by simp [rcs_length])) (by simpa using (unhide HMr).2))⟩) ?_ AllReadyH.nil)
      intro X hM6 hX6
      have HR6 : Hid (CPk T w1 X (some ⟨g, 0, none⟩) n c M (j + 1)) := hide ⟨hS0.1.block (hX6.block T.t (hS0.1.lt (by simp)) (by simpa using (unhide HMr).1)), (by have h1 := hM6; rw [(unhide HFN).1, (unhide HFN).2] at h1; exact h1), ((unhide HR).fr.drew.trans hX6 (fun b hb => Or.inr (by have h1 := unhide HM; obtain rfl : b = M := (by simpa using hb); omega)))⟩
      replace hS0 := And.intro (hS0.1.block (hX6.block T.t (hS0.1.lt (by simp)) (by simpa using (unhide HMr).1))) (hS0.2.block (hX6.block r.b (hS0.2.lt (by simp [rcs_length])) (by simpa using (unhide HMr).2)))
      clear hM6 hX6
      simp only [Act.put, List.setIfInBounds_toArray, List.set_cons_succ, List.set_cons_zero]
      refine wpAnyH_done (by kernel_rfl) ?_ _
      try simp only [Act.put, List.setIfInBounds_toArray, List.set_cons_succ, List.set_cons_zero]
      clear hS0
      go_wp2
      go_roundg (n - (j + 1))
      case measure => omega
      case rel => exact ⟨j + 1, by go_num, by omega, Nat.le_refl _, HR6⟩
    · have hjz : ¬ (j : Int) < n := by omega
      have hjn : j = n := by omega
      subst hjn
      go_wp2
      go_end0
      have hC := unhide HR
      have hTT := unhide HT1
      have hap := unhide HAP
      have e := unhide Hn
      have htk : T.live.take j = T.live := by rw [e, List.take_length]
      have hmp := hC.map
      rw [htk] at hmp
      have hM := unhide HM
      have hs1 := (unhide HF1).size
      have hlt := (unhide HT).lt
      have hrv : ∀ b, (Value.slice A j c).ownBlock = some b → (T.rv.ownBlock = some b ∨ b ∉ T.blocks) ∧ b ≠ M := fun b hb => by
        refine ⟨((unhide HB1) b hb).imp id (fun h1 hm => by have := hlt b hm; omega), ?_⟩
        have := World.ownsRow.lt hTT.own b hb
        omega
      refine ⟨rfl, M, .slice A j c, TT.Is.pack (unhide HT) hC.tab ?_ ?_ (fun r hr => ?_) (.inr (fun hm => by have := hlt M hm; omega)) hrv, ?_, ?_⟩
      · have h1 := hmp.mono (unhide hnl)
        rw [← e]
        exact h1
      · exact hTT.own.block (fun b hb => hC.fr.block b (World.ownsRow.lt hTT.own b hb).2 (fun hm => (hap.tv b hb).1 (by show b = T.t; simpa using hm)))
      · have h2 := hTT.rows r hr
        exact h2.block (hC.fr.block r.b (h2.lt (by simp [rcs_length])) (by simpa using fun e : r.b = T.t => hap.tr (e ▸ List.mem_map.2 ⟨r, hr, rfl⟩)))
      · exact (unhide HF1).trans hC.fr (fun b hb => .inl hb)
      · intro b hb
        simp only [TT.blocks, TT.packed, List.mem_cons, List.mem_append] at hb ⊢
        rcases hb with h1 | h1 | h1 | h1
        · exact .inl (.inl h1)
        · exact .inr (by omega)
        · rcases (unhide HB1) b (by simpa using h1) with h2 | h2
          · exact .inl (.inr (.inr (.inl (by rw [h2]; simp))))
          · exact .inr h2
        · exact .inl (.inr (.inr (.inr (live_sub T b h1))))
set_option maxRecDepth 100000 in
theorem delete14B (T : TT) (k : KK) (w : World) (hT : T.Is w) (hk : OkK k) (hl : T.last < 300000) : Calls Tryd.prog 13 #[.pointer (some ⟨T.t, 0, none⟩), k.agg] w fun e w' => e = .returned (.bool (T.find k).isSome) ∧ ∃ T' : TT, T'.Is w' ∧ T'.t = T.t ∧ T'.last = T.last ∧ Fr w w' T.blocks ∧ (∀ b ∈ T'.blocks, b ∈ T.blocks ∨ w.heap.size ≤ b) ∧ T'.live = T.live.filter (fun q => decide (q.k ≠ k)) := by
  cases hf : T.find k with
  | none =>
    have hlv : T.live.filter (fun q => decide (q.k ≠ k)) = T.live := by
      rw [List.filter_eq_self]
      intro q hq
      simpa using TT.find_none hf q hq
    rw [hlv]
    clear hlv
    have HT := hide (hT.on ((Below.refl _ _).alloc (Nat.le_refl _) (Obj.cells k.cs.toArray 34)))
    have LL := hide ((Hq.nil w T.blocks).new k.cs 34 (Nat.succ_pos _))
    have HL := hide hT.lt
    clear hT
    rw [show k.agg = .agg k.cs.toArray from rfl]
    go_enter Tryd.func13, Tryd.ntmps13
    go_wp2
    refine wp_region_held_drew (P := Tryd.prog) (S := fun X => T.Is X ∧ Hq w X T.blocks [(w.heap.size, k.cs)]) (by kernel_rfl) ⟨(unhide HT).drew, (unhide LL).drew⟩ (fun hS0 => ?_)
    refine gsem 0 (some 8) (.pointer (some ⟨T.t, 0, none⟩)) rfl (by kernel_rfl) (by kernel_rfl) (by kernel_rfl) (fun _ _ _ h => h) (by kernel_rfl) (by kernel_rfl) (fun _ _ => by kernel_rfl) hS0 ?_
    simp only [Act.put, List.setIfInBounds_toArray, List.set_cons_succ, List.set_cons_zero]
    refine gsem 1 (some 9) (.pointer (some ⟨T.t, 0, none⟩)) rfl (by kernel_rfl) (by kernel_rfl) (by kernel_rfl) (fun _ _ _ h => h) (by kernel_rfl) (by kernel_rfl) (fun _ _ => by kernel_rfl) hS0 ?_
    simp only [Act.put, List.setIfInBounds_toArray, List.set_cons_succ, List.set_cons_zero]
    refine gsem 2 (some 10) (.pointer (some ⟨T.t, 0, none⟩)) rfl (by kernel_rfl) (by kernel_rfl) (by kernel_rfl) (fun _ _ _ h => h) (by kernel_rfl) (by kernel_rfl) (fun _ _ => by kernel_rfl) hS0 ?_
    simp only [Act.put, List.setIfInBounds_toArray, List.set_cons_succ, List.set_cons_zero]
    refine gsem 3 (some 11) (.map (some T.m)) rfl (by kernel_rfl) (by kernel_rfl) (by kernel_rfl) (fun _ _ _ h => h) (by kernel_rfl) (by kernel_rfl) (fun X hX => ex_load1 67 Tryd.isAgg67 rfl rfl (hX.1.tab) rfl) hS0 ?_
    simp only [Act.put, List.setIfInBounds_toArray, List.set_cons_succ, List.set_cons_zero]
    refine gsem 4 (some 12) (k.agg) rfl (by kernel_rfl) (by kernel_rfl) (by kernel_rfl) (fun _ _ _ h => h) (by kernel_rfl) (by kernel_rfl) (fun X hX => ex_loadN (vs := k.cs) 34 2 row33x siz33 rfl rfl (hX.2.get 0 rfl) rfl rfl) hS0 ?_
    simp only [Act.put, List.setIfInBounds_toArray, List.set_cons_succ, List.set_cons_zero]
    refine gsem 5 (some 13) (.tuple #[pv (none), .bool false]) rfl (by kernel_rfl) (by kernel_rfl) (by kernel_rfl) (fun _ _ _ h => h) (by kernel_rfl) (by kernel_rfl) (fun X hX => ex_look (r := none) rfl rfl rfl hX.1.map hk (by rw [hf]; rfl)) hS0 ?_
    simp only [Act.put, List.setIfInBounds_toArray, List.set_cons_succ, List.set_cons_zero]
    refine gsem 6 (some 7) (.tuple #[pv (none), .bool false]) rfl (by kernel_rfl) (by kernel_rfl) (by kernel_rfl) (fun _ _ _ h => h) (by kernel_rfl) (by kernel_rfl) (fun _ _ => by kernel_rfl) hS0 ?_
    simp only [Act.put, List.setIfInBounds_toArray, List.set_cons_succ, List.set_cons_zero]
    refine gsem 7 (some 14) (pv (none)) rfl (by kernel_rfl) (by kernel_rfl) (by kernel_rfl) (fun _ _ _ h => h) (by kernel_rfl) (by kernel_rfl) (fun _ _ => by kernel_rfl) hS0 ?_
    simp only [Act.put, List.setIfInBounds_toArray, List.set_cons_succ, List.set_cons_zero]
    refine gsem 9 (some 5) (pv (none)) rfl (by kernel_rfl) (by kernel_rfl) (by kernel_rfl) (fun _ _ _ h => h) (by kernel_rfl) (by kernel_rfl) (fun _ _ => by kernel_rfl) hS0 ?_
    simp only [Act.put, List.setIfInBounds_toArray, List.set_cons_succ, List.set_cons_zero]
    refine gsem 8 (some 15) (.bool false) rfl (by kernel_rfl) (by kernel_rfl) (by kernel_rfl) (fun _ _ _ h => h) (by kernel_rfl) (by kernel_rfl) (fun _ _ => by kernel_rfl) hS0 ?_
    simp only [Act.put, List.setIfInBounds_toArray, List.set_cons_succ, List.set_cons_zero]
    refine gsem 10 (some 6) (.bool false) rfl (by kernel_rfl) (by kernel_rfl) (by kernel_rfl) (fun _ _ _ h => h) (by kernel_rfl) (by kernel_rfl) (fun _ _ => by kernel_rfl) hS0 ?_
    simp only [Act.put, List.setIfInBounds_toArray, List.set_cons_succ, List.set_cons_zero]
    refine wpAnyH_done (by kernel_rfl) ?_ _
    try simp only [Act.put, List.setIfInBounds_toArray, List.set_cons_succ, List.set_cons_zero]
    replace HT := hide hS0.1
    replace LL := hide hS0.2
    clear hS0
    go_wp2
    go_ret
    exact ⟨rfl, T, unhide HT, rfl, rfl, (unhide LL).fr, fun b hb => .inl hb, rfl⟩
  | some r =>
    have hrl : r ∈ T.live := List.mem_of_find?_eq_some hf
    obtain ⟨-, hgn, hrk⟩ := TT.find_mem hf
    have HRL := hide (And.intro hrl hrk)
    have H2 : Hid (∀ X, (T.left r.b).Is X → Calls Tryd.prog 30 #[.pointer (some ⟨T.t, 0, none⟩)] X fun e w' => e = .returned (.int .i64 (((T.left r.b).rows.length - (T.left r.b).live.length : Nat) : Int)) ∧ Below X.heap.size X w') := hide (fun X hX => gaps38 (T.left r.b) X hX (by have := hX.len; have e : (T.left r.b).last = T.last := rfl; omega))
    have H3 : Hid (∀ X, (T.left r.b).Is X → Calls Tryd.prog 17 #[.pointer (some ⟨T.t, 0, none⟩)] X fun e w' => e = .returned (.int .i64 (T.left r.b).live.length) ∧ w' = X) := hide (fun X hX => len30 (T.left r.b) X hX)
    have H4 : Hid (∀ X, (T.left r.b).Is X → Calls Tryd.prog 15 #[.pointer (some ⟨T.t, 0, none⟩)] X fun e w' => e = .returned (.tuple #[]) ∧ ∃ m rv, ((T.left r.b).packed m rv).Is w' ∧ Fr X w' [T.t] ∧ (∀ b ∈ ((T.left r.b).packed m rv).blocks, b ∈ (T.left r.b).blocks ∨ X.heap.size ≤ b)) := hide (fun X hX => compact18B (T.left r.b) X hX hl)
    have HLV : Hid ((T.left r.b).live = T.live.filter (fun q => decide (q.k ≠ k))) := hide (by rw [TT.left_live' hT hrl, hrk])
    have HAP := hide (TT.apart hT.nd)
    have hk2 := hide hk
    have hf2 := hide hf
    clear hrl hrk hgn hl
    have HT := hide (hT.on ((Below.refl _ _).alloc (Nat.le_refl _) (Obj.cells k.cs.toArray 34)))
    have LL := hide ((Hq.nil w T.blocks).new k.cs 34 (Nat.succ_pos _))
    have HL := hide hT.lt
    clear hT
    rw [show k.agg = .agg k.cs.toArray from rfl]
    go_enter Tryd.func13, Tryd.ntmps13
    go_wp2
    refine wp_region_held_drew (P := Tryd.prog) (S := fun X => T.Is X ∧ Hq w X T.blocks [(w.heap.size, k.cs)]) (by kernel_rfl) ⟨(unhide HT).drew, (unhide LL).drew⟩ (fun hS0 => ?_)
    refine gsem 0 (some 8) (.pointer (some ⟨T.t, 0, none⟩)) rfl (by kernel_rfl) (by kernel_rfl) (by kernel_rfl) (fun _ _ _ h => h) (by kernel_rfl) (by kernel_rfl) (fun _ _ => by kernel_rfl) hS0 ?_
    simp only [Act.put, List.setIfInBounds_toArray, List.set_cons_succ, List.set_cons_zero]
    refine gsem 1 (some 9) (.pointer (some ⟨T.t, 0, none⟩)) rfl (by kernel_rfl) (by kernel_rfl) (by kernel_rfl) (fun _ _ _ h => h) (by kernel_rfl) (by kernel_rfl) (fun _ _ => by kernel_rfl) hS0 ?_
    simp only [Act.put, List.setIfInBounds_toArray, List.set_cons_succ, List.set_cons_zero]
    refine gsem 2 (some 10) (.pointer (some ⟨T.t, 0, none⟩)) rfl (by kernel_rfl) (by kernel_rfl) (by kernel_rfl) (fun _ _ _ h => h) (by kernel_rfl) (by kernel_rfl) (fun _ _ => by kernel_rfl) hS0 ?_
    simp only [Act.put, List.setIfInBounds_toArray, List.set_cons_succ, List.set_cons_zero]
    refine gsem 3 (some 11) (.map (some T.m)) rfl (by kernel_rfl) (by kernel_rfl) (by kernel_rfl) (fun _ _ _ h => h) (by kernel_rfl) (by kernel_rfl) (fun X hX => ex_load1 67 Tryd.isAgg67 rfl rfl (hX.1.tab) rfl) hS0 ?_
    simp only [Act.put, List.setIfInBounds_toArray, List.set_cons_succ, List.set_cons_zero]
    refine gsem 4 (some 12) (k.agg) rfl (by kernel_rfl) (by kernel_rfl) (by kernel_rfl) (fun _ _ _ h => h) (by kernel_rfl) (by kernel_rfl) (fun X hX => ex_loadN (vs := k.cs) 34 2 row33x siz33 rfl rfl (hX.2.get 0 rfl) rfl rfl) hS0 ?_
    simp only [Act.put, List.setIfInBounds_toArray, List.set_cons_succ, List.set_cons_zero]
    refine gsem 5 (some 13) (.tuple #[pv (some r.b), .bool true]) rfl (by kernel_rfl) (by kernel_rfl) (by kernel_rfl) (fun _ _ _ h => h) (by kernel_rfl) (by kernel_rfl) (fun X hX => ex_look (r := some r.b) rfl rfl rfl hX.1.map hk (by rw [hf]; rfl)) hS0 ?_
    simp only [Act.put, List.setIfInBounds_toArray, List.set_cons_succ, List.set_cons_zero]
    refine gsem 6 (some 7) (.tuple #[pv (some r.b), .bool true]) rfl (by kernel_rfl) (by kernel_rfl) (by kernel_rfl) (fun _ _ _ h => h) (by kernel_rfl) (by kernel_rfl) (fun _ _ => by kernel_rfl) hS0 ?_
    simp only [Act.put, List.setIfInBounds_toArray, List.set_cons_succ, List.set_cons_zero]
    refine gsem 7 (some 14) (pv (some r.b)) rfl (by kernel_rfl) (by kernel_rfl) (by kernel_rfl) (fun _ _ _ h => h) (by kernel_rfl) (by kernel_rfl) (fun _ _ => by kernel_rfl) hS0 ?_
    simp only [Act.put, List.setIfInBounds_toArray, List.set_cons_succ, List.set_cons_zero]
    refine gsem 9 (some 5) (pv (some r.b)) rfl (by kernel_rfl) (by kernel_rfl) (by kernel_rfl) (fun _ _ _ h => h) (by kernel_rfl) (by kernel_rfl) (fun _ _ => by kernel_rfl) hS0 ?_
    simp only [Act.put, List.setIfInBounds_toArray, List.set_cons_succ, List.set_cons_zero]
    refine gsem 8 (some 15) (.bool true) rfl (by kernel_rfl) (by kernel_rfl) (by kernel_rfl) (fun _ _ _ h => h) (by kernel_rfl) (by kernel_rfl) (fun _ _ => by kernel_rfl) hS0 ?_
    simp only [Act.put, List.setIfInBounds_toArray, List.set_cons_succ, List.set_cons_zero]
    refine gsem 10 (some 6) (.bool true) rfl (by kernel_rfl) (by kernel_rfl) (by kernel_rfl) (fun _ _ _ h => h) (by kernel_rfl) (by kernel_rfl) (fun _ _ => by kernel_rfl) hS0 ?_
    simp only [Act.put, List.setIfInBounds_toArray, List.set_cons_succ, List.set_cons_zero]
    refine wpAnyH_done (by kernel_rfl) ?_ _
    try simp only [Act.put, List.setIfInBounds_toArray, List.set_cons_succ, List.set_cons_zero]
    replace HT := hide hS0.1
    replace LL := hide hS0.2
    clear hS0
    unfold pv
    go_wp2
    refine wp_region_held_drew (P := Tryd.prog) (S := fun X => Holds X T.t T.cs ∧ Hq w X T.blocks [(w.heap.size, k.cs)]) (by kernel_rfl) ⟨(unhide HT).tab.block rfl, (unhide LL).drew⟩ (fun hS0 => ?_)
    refine gsem 0 (some 18) (.pointer (some ⟨T.t, 0, none⟩)) rfl (by kernel_rfl) (by kernel_rfl) (by kernel_rfl) (fun _ _ _ h => h) (by kernel_rfl) (by kernel_rfl) (fun _ _ => by kernel_rfl) hS0 ?_
    simp only [Act.put, List.setIfInBounds_toArray, List.set_cons_succ, List.set_cons_zero]
    refine gsem 1 (some 19) (.pointer (some ⟨T.t, 0, none⟩)) rfl (by kernel_rfl) (by kernel_rfl) (by kernel_rfl) (fun _ _ _ h => h) (by kernel_rfl) (by kernel_rfl) (fun _ _ => by kernel_rfl) hS0 ?_
    simp only [Act.put, List.setIfInBounds_toArray, List.set_cons_succ, List.set_cons_zero]
    refine gsem 2 (some 20) (.pointer (some ⟨T.t, 0, none⟩)) rfl (by kernel_rfl) (by kernel_rfl) (by kernel_rfl) (fun _ _ _ h => h) (by kernel_rfl) (by kernel_rfl) (fun _ _ => by kernel_rfl) hS0 ?_
    simp only [Act.put, List.setIfInBounds_toArray, List.set_cons_succ, List.set_cons_zero]
    refine gsem 3 (some 21) (.map (some T.m)) rfl (by kernel_rfl) (by kernel_rfl) (by kernel_rfl) (fun _ _ _ h => h) (by kernel_rfl) (by kernel_rfl) (fun X hX => ex_load1 67 Tryd.isAgg67 rfl rfl (hX.1) rfl) hS0 ?_
    simp only [Act.put, List.setIfInBounds_toArray, List.set_cons_succ, List.set_cons_zero]
    refine gsem 4 (some 22) (k.agg) rfl (by kernel_rfl) (by kernel_rfl) (by kernel_rfl) (fun _ _ _ h => h) (by kernel_rfl) (by kernel_rfl) (fun X hX => ex_loadN (vs := k.cs) 34 2 row33x siz33 rfl rfl (hX.2.get 0 rfl) rfl rfl) hS0 ?_
    simp only [Act.put, List.setIfInBounds_toArray, List.set_cons_succ, List.set_cons_zero]
    have hmt : T.t ∉ [T.m] := by simpa using (unhide HAP).tm
    have hkm : w.heap.size ≠ T.m := by have := (unhide HL) T.m (by simp [TT.blocks]); omega
    have hmb : ∀ b ∈ [T.m], b ∈ T.blocks ∨ w.heap.size ≤ b := fun b hb => .inl (by obtain rfl : b = T.m := (by simpa using hb); simp [TT.blocks])
    refine wpAnyH_ready (rs := [5]) (by kernel_rfl) (by simp) (gdel 5 rfl (by kernel_rfl) (by kernel_rfl) rfl rfl rfl (unhide HT).drew.map (unhide hk2) (fun X hX => ⟨hS0.1.block (hX.block T.t (hS0.1.lt (by simp [TT.cs])) hmt), hS0.2.step hX hmb (fun q hq => by obtain rfl : q = (w.heap.size, k.cs) := (by simpa using hq); simpa using hkm)⟩) ?_ AllReadyH.nil)
    intro X hM hX
    have hTd := (unhide HT).drew
    have hLX := hS0.2.step hX hmb (fun q hq => by obtain rfl : q = (w.heap.size, k.cs) := (by simpa using hq); simpa using hkm)
    have hm3 : MapIs X T.m T.last (T.live.length - 1) (putF (fun q => (T.find q).map (·.b)) k none) := by
      have e := unhide hf2
      have := hM
      simp only [e, Option.map_some, Option.isSome_some, if_true] at this
      exact this
    have hap := unhide HAP
    have hbl : ∀ b, b ≠ T.m → b < w.heap.size → X.heap[b]? = (World.drew _).heap[b]? := fun b hb hlt => hX.block b (by have := hS0.2.fr.size; omega) (by simpa using hb)
    have HOWN : Hid (OwnP X T.rv (T.rows.map (·.b))) := hide (hTd.own.block (fun g hg => hX.block g (World.ownsRow.lt hTd.own g hg).2 (fun hm => (hap.tv g hg).2.1 (by simpa using hm))))
    have HROW : Hid (∀ q ∈ T.rows, Holds X q.b q.cs) := hide (fun q hq => (hTd.rows q hq).block (hX.block q.b ((hTd.rows q hq).lt (by simp [rcs_length])) (fun hm => hap.mr (by obtain h1 : q.b = T.m := (by simpa using hm); exact h1 ▸ List.mem_map.2 ⟨q, hq, rfl⟩))))
    have HTAB : Hid (Holds X T.t T.cs) := hide (hS0.1.block (hX.block T.t (hS0.1.lt (by simp [TT.cs])) hmt))
    have HM3 := hide hm3
    have hS1 : Holds X T.t T.cs ∧ Hq w X T.blocks [(w.heap.size, k.cs)] := ⟨unhide HTAB, hLX⟩
    replace LL := hide hLX
    clear hS0 hM hX hTd hLX hm3 hbl hmt hkm hmb
    simp only [Act.put, List.setIfInBounds_toArray, List.set_cons_succ, List.set_cons_zero]
    refine wpAnyH_done (by kernel_rfl) ?_ _
    try simp only [Act.put, List.setIfInBounds_toArray, List.set_cons_succ, List.set_cons_zero]
    clear hS1
    go_wp2_with fail
    refine (leave37 r X ((unhide HROW) r (live_mem (unhide HRL).1))).mono ?_
    rintro _ w3 ⟨rfl, hg3, hf3⟩
    have hrm : r.b ∈ T.rows.map (·.b) := List.mem_map.2 ⟨r, live_mem (unhide HRL).1, rfl⟩
    have hT2 : (T.left r.b).Is w3 := by
      have e := (unhide HRL).2
      refine TT.Is.left (unhide HT) (unhide HRL).1 ((unhide HTAB).block (hf3.block T.t ((unhide HTAB).lt (by simp [TT.cs])) ?_)) ?_ ((unhide HOWN).block (fun g hg => hf3.block g (World.ownsRow.lt (unhide HOWN) g hg).2 ?_)) (fun q hq hne => ((unhide HROW) q hq).block (hf3.block q.b (((unhide HROW) q hq).lt (by simp [rcs_length])) (by simpa using hne))) hg3
      · intro hm
        exact hap.tr (by obtain h1 : T.t = r.b := (by simpa using hm); exact h1 ▸ hrm)
      · rw [e]
        exact (unhide HM3).block (hf3.block T.m (unhide HM3).lt (fun hm => hap.mr (by obtain h1 : T.m = r.b := (by simpa using hm); exact h1 ▸ hrm)))
      · intro hm
        exact (hap.tv g hg).2.2 (by obtain h1 : g = r.b := (by simpa using hm); exact h1 ▸ hrm)
    have HFR : Hid (Fr w w3 T.blocks) := hide ((unhide LL).fr.trans hf3 (fun b hb => .inl (by
      obtain rfl : b = r.b := by simpa using hb
      unfold TT.blocks
      simp only [List.mem_cons, List.mem_append]
      exact .inr (.inr (.inr hrm)))))
    have HT2 := hide hT2
    clear hT2 hg3 hf3 hrm hap HOWN HROW HTAB HM3 LL
    go_wp2_with fail
    refine ((unhide H2) w3 (unhide HT2)).mono ?_
    rintro _ w4 ⟨rfl, hb⟩
    replace HFR := hide ((unhide HFR).on hb)
    replace HT2 := hide ((unhide HT2).on hb)
    clear hb
    go_wp2_with fail
    refine ((unhide H3) w4 (unhide HT2)).mono ?_
    rintro _ x4 ⟨rfl, e4⟩
    rw [e4]
    clear e4 x4
    obtain ⟨g1, hg1⟩ : ∃ g1, g1 = (T.left r.b).rows.length - (T.left r.b).live.length := ⟨_, rfl⟩
    obtain ⟨g2, hg2⟩ : ∃ g2, g2 = (T.left r.b).live.length := ⟨_, rfl⟩
    rw [← hg1, ← hg2]
    clear hg1 hg2
    by_cases hgt : g2 < g1
    · have hgz : (g2 : Int) < g1 := by omega
      go_wp2_with fail
      refine ((unhide H4) w4 (unhide HT2)).mono ?_
      rintro _ w5 ⟨rfl, m, rv, hT5, hf5, hb5⟩
      have HF5 := hide hf5
      have HT5 := hide hT5
      have HB5 := hide hb5
      clear hf5 hT5 hb5
      go_wp2
      go_ret
      refine ⟨rfl, _, unhide HT5, rfl, rfl, (unhide HFR).trans (unhide HF5) (fun b hb => .inl (by obtain rfl : b = T.t := (by simpa using hb); simp [TT.blocks])), fun b hb => ?_, ?_⟩
      · rcases (unhide HB5) b hb with h1 | h1
        · rw [TT.left_blocks] at h1
          exact .inl h1
        · exact .inr (Nat.le_trans (unhide HFR).size h1)
      · rw [TT.packed_live]
        exact unhide HLV
    · have hgz : ¬ (g2 : Int) < g1 := by omega
      go_wp2
      go_ret
      refine ⟨rfl, _, unhide HT2, rfl, rfl, unhide HFR, fun b hb => ?_, unhide HLV⟩
      rw [TT.left_blocks] at hb
      exact .inl hb
end Go.Proofs.YtmemceindohklaaDoor

/-! Ub -/
namespace Go.Proofs.YtmemceindohklaaDoor
open Go Go.Proofs Go.Maps Go.RowKit
set_option linter.unusedSimpArgs false
set_option linter.unusedVariables false
set_option maxHeartbeats 1000000
/-- Keys that stand once. -/
def Once (l : List (KK × DD)) : Prop := l.Pairwise (fun a b => a.1 ≠ b.1)
def prA (s : AS) : List (KK × DD) := s.l.map (fun e => (e.1, e.2.1))
theorem prA_abs (T : TT) : prA (abs T) = T.live.map RR.pr := by
  unfold prA abs
  rw [List.map_map]
  rfl
theorem once_live {T : TT} {W : World} (h : T.Is W) : Once (T.live.map RR.pr) := by
  unfold Once
  rw [List.pairwise_map]
  exact h.keys
theorem prA_del (s : AS) (k : KK) : prA (s.del k) = (prA s).filter (fun p => decide (p.1 ≠ k)) := by
  unfold prA AS.del
  rw [List.filter_map]
  rfl
theorem has_prA (s : AS) (k : KK) : s.has k = (prA s).any (fun p => decide (p.1 = k)) := by
  unfold AS.has prA
  rw [List.any_map]
  rfl
theorem del_has (s : AS) (k : KK) : (s.del k).has k = false := by
  rw [has_prA, prA_del, List.any_eq_false]
  intro p hp
  have := (List.mem_filter.1 hp).2
  simpa using this
theorem prA_put {s : AS} {k : KK} {d : DD} (h : s.has k = false) (hg : goodK k = true) : prA (s.put k d) = prA s ++ [(k, d)] := by
  unfold AS.put
  rw [h, hg]
  simp [prA]
theorem dcons {l : List (KK × DD)} {i : Nat} (h : i < l.length) : l.drop i = l[i] :: l.drop (i + 1) := List.drop_eq_getElem_cons h
theorem mem_drop0 {l : List (KK × DD)} {i : Nat} (h : i < l.length) : l[i] ∈ l.drop i := by
  rw [dcons h]
  exact List.mem_cons_self
/-- Where the table stands behind i rounds. -/
def rot (l : List (KK × DD)) (i : Nat) : List (KK × DD) := l.drop i ++ l.take i
theorem rot_zero (l : List (KK × DD)) : rot l 0 = l := by simp [rot]
theorem rot_all (l : List (KK × DD)) : rot l l.length = l := by simp [rot]
theorem rot_drop {l : List (KK × DD)} (ho : Once l) {i : Nat} (hi : i < l.length) : (rot l i).filter (fun p => decide (p.1 ≠ l[i].1)) = l.drop (i + 1) ++ l.take i := by
  have e : l = l.take i ++ (l[i] :: l.drop (i + 1)) := by rw [← dcons hi, List.take_append_drop]
  have ho' := ho
  unfold Once at ho'
  rw [e, List.pairwise_append, List.pairwise_cons] at ho'
  obtain ⟨-, ⟨h2, -⟩, h3⟩ := ho'
  unfold rot
  rw [dcons hi, List.filter_append, List.filter_cons_of_neg (by simp)]
  congr 1
  · rw [List.filter_eq_self]
    intro p hp
    simpa using fun h => h2 p hp h.symm
  · rw [List.filter_eq_self]
    intro p hp
    simpa using h3 p hp l[i] (List.mem_cons_self ..)
theorem rot_has {l : List (KK × DD)} {i : Nat} (hi : i < l.length) : (rot l i).any (fun p => decide (p.1 = l[i].1)) = true := by
  rw [List.any_eq_true]
  exact ⟨l[i], List.mem_append_left _ (mem_drop0 hi), by simp⟩
theorem rot_next {l : List (KK × DD)} {i : Nat} (hi : i < l.length) : l.drop (i + 1) ++ l.take i ++ [l[i]] = rot l (i + 1) := by
  unfold rot
  rw [List.append_assoc, List.take_succ_eq_append_getElem hi]
theorem drop_filter {l : List (KK × DD)} (ho : Once l) {i : Nat} (hi : i < l.length) : (l.drop i).filter (fun p => decide (p.1 ≠ l[i].1)) = l.drop (i + 1) := by
  have e : l = l.take i ++ (l[i] :: l.drop (i + 1)) := by rw [← dcons hi, List.take_append_drop]
  have ho' := ho
  unfold Once at ho'
  rw [e, List.pairwise_append, List.pairwise_cons] at ho'
  obtain ⟨-, ⟨h2, -⟩, -⟩ := ho'
  rw [dcons hi, List.filter_cons_of_neg (by simp), List.filter_eq_self]
  intro p hp
  simpa using fun h => h2 p hp h.symm
/-- The table, its clone, and the row that was told, in the midst. -/
structure LW (w X : World) (T C : TT) (v : Value) (prs : List (KK × DD)) : Prop where
  tis : T.Is X
  cis : C.Is X
  cl : C.live.map RR.pr = prs
  cla : C.last < 1000000
  own : X.ownsRow w.heap.size 54 20 v prs.length (flatP prs)
  dis : ∀ b ∈ T.blocks, b ∉ C.blocks
  dow : ∀ g, v.ownBlock = some g → g ∉ T.blocks
  new : ∀ b ∈ T.blocks, w.heap.size ≤ b
  fr : Fr w X []
theorem LW.on {w X Y : World} {T C : TT} {v : Value} {prs : List (KK × DD)} (h : LW w X T C v prs) (k : Below X.heap.size X Y) : LW w Y T C v prs :=
  ⟨h.tis.on k, h.cis.on k, h.cl, h.cla, own_keep h.own (fun g hg => k.block g (World.ownsRow.lt h.own g hg).2), h.dis, h.dow, h.new, h.fr.on k⟩
theorem LW.step {w X Y : World} {T T' C : TT} {v : Value} {prs : List (KK × DD)} (h : LW w X T C v prs) (hT : T'.Is Y) (hf : Fr X Y T.blocks) (hb : ∀ b ∈ T'.blocks, b ∈ T.blocks ∨ X.heap.size ≤ b) : LW w Y T' C v prs :=
  ⟨hT, h.cis.fr hf (fun b hb hm => h.dis b hm hb), h.cl, h.cla, own_keep h.own (fun g hg => hf.block g (World.ownsRow.lt h.own g hg).2 (h.dow g hg)),
   fun b hm => by
    rcases hb b hm with h1 | h1
    · exact h.dis b h1
    · exact fun hc => by have := h.cis.lt b hc; omega,
   fun g hg hm => by
    rcases hb g hm with h1 | h1
    · exact h.dow g hg h1
    · have := (World.ownsRow.lt h.own g hg).2; omega,
   fun b hm => by
    rcases hb b hm with h1 | h1
    · exact h.new b h1
    · exact Nat.le_trans h.fr.size h1,
   h.fr.trans hf (fun b hm => .inr (h.new b hm))⟩
theorem LW.row {w X : World} {T C : TT} {v : Value} {prs : List (KK × DD)} (h : LW w X T C v prs) (i : Nat) (hi : i < prs.length) : ∃ g c, v = .slice (some ⟨g, 0, none⟩) prs.length c ∧ g < X.heap.size ∧ X.rangeAt g (i * 20) (prs[i].1.cs ++ prs[i].2.cs) := by
  have ho := h.own
  rcases ho.2 with ⟨-, h0⟩ | ⟨g, cap, cur, h1, -, -, -⟩
  · omega
  · have hl := (World.ownsRow.lt ho g (by rw [h1]; rfl)).2
    rw [h1] at ho
    refine ⟨g, cap, h1, hl, ?_⟩
    have h2 := own_rows (f := fun x : KK × DD => x.1.cs ++ x.2.cs) (fun x => rfl) ho i hi
    simpa using h2
theorem LW.start {w Y1 Z1 Z2 Z3 : World} {Ta T1 C : TT} {v : Value} (hY : Fr w Y1 []) (hba : ∀ b ∈ Ta.blocks, w.heap.size ≤ b) (hT1 : T1.Is Z1) (hf : Fr Y1 Z1 Ta.blocks) (hnb : ∀ b ∈ T1.blocks, b ∈ Ta.blocks ∨ Y1.heap.size ≤ b) (hC : C.Is Z2) (hcl : C.live.map RR.pr = T1.live.map RR.pr) (hla : C.last < 1000000) (hcb : ∀ b ∈ C.blocks, Z1.heap.size ≤ b) (k2 : Below Z1.heap.size Z1 Z2) (ho : Z3.ownsRow Z2.heap.size 54 20 v T1.live.length (flatP (T1.live.map RR.pr))) (k3 : Below Z2.heap.size Z2 Z3) : LW w Z3 T1 C v (T1.live.map RR.pr) := by
  have f1 : Fr w Z1 [] := hY.trans hf (fun b hm => .inr (hba b hm))
  have f2 : Fr w Z2 [] := f1.on k2
  refine ⟨(hT1.on k2).on k3, hC.on k3, hcl, hla, ?_, ?_, ?_, ?_, f2.on k3⟩
  · rw [List.length_map]
    exact own_mono ho f2.size
  · intro b hb hc
    have h1 := hT1.lt b hb
    have h2 := hcb b hc
    omega
  · intro g hg hm
    have h1 := hT1.lt g hm
    have h2 := (World.ownsRow.lt ho g hg).1
    have h3 := k2.size
    omega
  · intro b hb
    rcases hnb b hb with h1 | h1
    · exact hba b h1
    · exact Nat.le_trans hY.size h1
/-- Behind i rounds of the first loop. -/
def LI (w X : World) (t0 : Nat) (T C : TT) (v : Value) (prs : List (KK × DD)) (i m : Nat) : Prop := LW w X T C v prs ∧ T.t = t0 ∧ T.last ≤ m + i ∧ prA (abs T) = rot prs i
/-- Behind i rounds of the second. -/
def LJ (w X : World) (t0 : Nat) (T C : TT) (v : Value) (prs : List (KK × DD)) (i m : Nat) : Prop := LW w X T C v prs ∧ T.t = t0 ∧ T.last ≤ m ∧ prA (abs T) = prs.drop i
theorem lw_del {w X : World} {t0 : Nat} {T C : TT} {v : Value} {prs ls : List (KK × DD)} {k : KK} (h : LW w X T C v prs) (ht : T.t = t0) (hp : prA (abs T) = ls) (hm : T.last < 300000) (hg : goodK k = true) (ha : ls.any (fun p => decide (p.1 = k)) = true) : Calls Tryd.prog 13 #[.pointer (some ⟨t0, 0, none⟩), k.agg] X fun e Y => e = .returned (.bool true) ∧ ∃ T' : TT, LW w Y T' C v prs ∧ T'.t = t0 ∧ T'.last = T.last ∧ prA (abs T') = ls.filter (fun p => decide (p.1 ≠ k)) := by
  subst ht hp
  refine (delete14B T k X h.tis (good_ok hg) hm).mono ?_
  rintro e Y ⟨rfl, T', h1, h2, h3, h4, h5, h6⟩
  rw [← abs_has, has_prA, ha]
  exact ⟨rfl, T', h.step h1 h4 h5, h2, h3, by rw [abs_del h6 h3, prA_del]⟩
theorem LI.del {w X : World} {t0 : Nat} {T C : TT} {v : Value} {prs : List (KK × DD)} {i m : Nat} {k : KK} {d : DD} (h : LI w X t0 T C v prs i m) (hi : i < prs.length) (hkd : prs[i] = (k, d)) (ho : Once prs) (hg : goodK k = true) (hm : m + i < 300000) : Calls Tryd.prog 13 #[.pointer (some ⟨t0, 0, none⟩), k.agg] X fun e Y => e = .returned (.bool true) ∧ ∃ T' : TT, LW w Y T' C v prs ∧ T'.t = t0 ∧ T'.last ≤ m + i ∧ prA (abs T') = prs.drop (i + 1) ++ prs.take i := by
  obtain ⟨h1, h2, h3, h4⟩ := h
  have e1 : k = prs[i].1 := by rw [hkd]
  refine (lw_del h1 h2 h4 (by omega) hg (by rw [e1]; exact rot_has hi)).mono ?_
  rintro e Y ⟨rfl, T', g1, g2, g3, g4⟩
  exact ⟨rfl, T', g1, g2, by omega, by rw [g4, e1]; exact rot_drop ho hi⟩
theorem LJ.del {w X : World} {t0 : Nat} {T C : TT} {v : Value} {prs : List (KK × DD)} {i m : Nat} {k : KK} {d : DD} (h : LJ w X t0 T C v prs i m) (hi : i < prs.length) (hkd : prs[i] = (k, d)) (ho : Once prs) (hg : goodK k = true) (hm : m < 300000) : Calls Tryd.prog 13 #[.pointer (some ⟨t0, 0, none⟩), k.agg] X fun e Y => e = .returned (.bool true) ∧ ∃ T' : TT, LJ w Y t0 T' C v prs (i + 1) m := by
  obtain ⟨h1, h2, h3, h4⟩ := h
  have e1 : k = prs[i].1 := by rw [hkd]
  refine (lw_del h1 h2 h4 (by omega) hg (by rw [e1, List.any_eq_true]; exact ⟨prs[i], mem_drop0 hi, by simp⟩)).mono ?_
  rintro e Y ⟨rfl, T', g1, g2, g3, g4⟩
  exact ⟨rfl, T', g1, g2, by omega, by rw [g4, e1]; exact drop_filter ho hi⟩
theorem LW.put {w X : World} {t0 : Nat} {T C : TT} {v : Value} {prs : List (KK × DD)} {i m : Nat} {k : KK} {d : DD} (h : LW w X T C v prs) (ht : T.t = t0) (hl : T.last ≤ m + i) (hp : prA (abs T) = prs.drop (i + 1) ++ prs.take i) (hi : i < prs.length) (hkd : prs[i] = (k, d)) (ho : Once prs) (hg : goodK k = true) (hm : m + i < 300000) (hU : Lib.Utf8Tabs 4 5 w) : Calls Tryd.prog 12 #[.pointer (some ⟨t0, 0, none⟩), k.agg, d.agg] X fun e Y => e = .returned (.int .i64 0) ∧ ∃ T' : TT, LI w Y t0 T' C v prs (i + 1) m := by
  subst ht
  have e1 : k = prs[i].1 := by rw [hkd]
  have hno : (abs T).has k = false := by
    rw [has_prA, hp, e1, ← rot_drop ho hi, List.any_eq_false]
    intro p hp
    have := (List.mem_filter.1 hp).2
    simpa using this
  refine (put12 T k d X h.tis (tabs_below hU h.fr.below) (good_ok hg) (by omega) (fun b hb => Nat.le_trans (tabs_size hU) (h.new b hb))).mono ?_
  rintro e Y ⟨rfl, T', g1, g2, g3, g4, g5⟩
  have gP : PutT T k d T' := g5
  rw [hg]
  refine ⟨rfl, T', h.step g1 g3 g4, g2, ?_, ?_⟩
  · have := gP.last
    omega
  · rw [abs_put h.tis gP, prA_put hno hg, hp, ← hkd]
    exact rot_next hi
theorem LW.sameT {w X : World} {t0 : Nat} {T C : TT} {v : Value} {prs : List (KK × DD)} (h : LW w X T C v prs) (ht : T.t = t0) (hp : prA (abs T) = prs) (hl : T.last < 1000000) (hn : prs.length ≤ 100000) : Calls Tryd.prog 16 #[.pointer (some ⟨t0, 0, none⟩)] X fun e Y => ∃ u, e = .returned u ∧ LW w Y T C v prs ∧ Y.ownsRow X.heap.size 54 20 u prs.length (flatP prs) := by
  subst ht
  have e : T.live.map RR.pr = prs := by rw [← prA_abs]; exact hp
  have e2 : T.live.length = prs.length := by rw [← e]; simp
  refine (props27 T X h.tis hl (by omega)).mono ?_
  rintro e0 Y ⟨u, rfl, g1, g2⟩
  rw [e2, e] at g1
  exact ⟨u, rfl, h.on g2, g1⟩
theorem LW.sameC {w X : World} {T C : TT} {v : Value} {prs : List (KK × DD)} (h : LW w X T C v prs) (hn : prs.length ≤ 100000) : Calls Tryd.prog 16 #[.pointer (some ⟨C.t, 0, none⟩)] X fun e Y => ∃ u, e = .returned u ∧ LW w Y T C v prs ∧ Y.ownsRow X.heap.size 54 20 u prs.length (flatP prs) := by
  have e2 : C.live.length = prs.length := by rw [← h.cl]; simp
  refine (props27 C X h.cis h.cla (by omega)).mono ?_
  rintro e0 Y ⟨u, rfl, g1, g2⟩
  rw [e2, h.cl] at g1
  exact ⟨u, rfl, h.on g2, g1⟩
end Go.Proofs.YtmemceindohklaaDoor

/-! Uc -/
namespace Go.Proofs.YtmemceindohklaaDoor
open Go Go.Proofs Go.Maps Go.RowKit
set_option linter.unusedSimpArgs false
set_option linter.unusedVariables false
set_option maxHeartbeats 1000000
theorem unRw : Tryd.prog.underlying 25 = some (.slice (Tryd.prog.elem 25)) := by kernel_rfl
theorem idRw : ∀ w, (sizeOf (Tryd.prog.elem 25)).run Tryd.prog w = .ok 20 w := fun w => by kernel_rfl
theorem ex_neqZ {o : Oper} {a : Act} {w : World} {x y : Operand} {n m : Int} {r : Bool} (ho : o.op = .binOp .neq 3 x y 3) (hx : a.eval x = .int .i64 n) (hy : a.eval y = .int .i64 m) (h : (n != m) = r) : (execOp a.eval o).run Tryd.prog w = .ok (.value (.bool r)) w := by
  unfold execOp
  simp only [ho, hx, hy]
  simp [go_sem, eqGuard, h]
theorem live_good {T : TT} {W : World} (h : T.Is W) : ∀ p ∈ T.live.map RR.pr, goodK p.1 = true := fun p hp => by
  obtain ⟨r, hr, rfl⟩ := List.mem_map.1 hp
  exact h.good r hr
theorem LW.rowAt {w X : World} {T C : TT} {prs : List (KK × DD)} {g n c i : Nat} {k : KK} {d : DD} (h : LW w X T C (.slice (some ⟨g, 0, none⟩) n c) prs) (hi : i < prs.length) (hkd : prs[i] = (k, d)) : X.rangeAt g (0 + i * 20) (k.cs ++ d.cs) := by
  obtain ⟨g', c', h1, h2, h3⟩ := h.row i hi
  obtain ⟨rfl, -, -⟩ : g = g' ∧ _ ∧ _ := by simpa using h1
  rw [hkd] at h3
  rw [Nat.zero_add]
  exact h3
theorem LW.slice {w X : World} {T C : TT} {A : Option Addr} {prs : List (KK × DD)} {n c i : Nat} (h : LW w X T C (.slice A n c) prs) (hi : i < prs.length) : ∃ g, A = some ⟨g, 0, none⟩ := by
  obtain ⟨g', c', h1, h2, h3⟩ := h.row i hi
  obtain ⟨rfl, -⟩ : A = some ⟨g', 0, none⟩ ∧ _ := by simpa using h1
  exact ⟨g', rfl⟩
attribute [local go_sem] Oper.semAt_some
set_option maxHeartbeats 8000000 in
set_option maxRecDepth 100000 in
theorem law5 (A : Option Addr) (cap : Nat) (l : List AT) (w : World) (hR : ReadsAT w [] A l) (hU : Lib.Utf8Tabs 4 5 w) (hP : TabP w) : Calls Tryd.prog 5 #[.slice A l.length cap] w fun e w' => e = .returned (.bool true) ∧ Below w.heap.size w w' := by
  have HR := hide hR
  have HU := hide hU
  have HP := hide hP
  clear hR hU hP
  go_enter Tryd.func5, Tryd.ntmps5
  go_wp2_with fail
  refine (works6 w (unhide HU) (unhide HP)).mono ?_
  rintro _ W1 ⟨rfl, hb1⟩
  have HB1 := hide hb1
  clear hb1
  go_wp2_with fail
  refine (few7 A l.length cap W1).mono ?_
  rintro _ W2 ⟨rfl, h2⟩
  subst h2
  by_cases h400 : l.length ≤ 400
  · rw [decide_eq_true h400]
    have HL := hide h400
    clear h400
    go_wp2_with fail
    refine (new10 W2).mono ?_
    rintro _ Y1 ⟨Ta, rfl, hTa, hra, h0a, hba, hka⟩
    have hY : Fr w Y1 [] := (Fr.of_below (unhide HB1) []).trans (Fr.of_below hka []) (by simp)
    have hba2 : ∀ b ∈ Ta.blocks, w.heap.size ≤ b := fun b hb => Nat.le_trans (unhide HB1).size (hba b hb)
    have HRUN := hide (run8 Ta A cap l false Y1 hTa ((unhide HR).to hY hba2) (tabs_below (unhide HU) hY.below) (fun b hm => Nat.le_trans (tabs_size (unhide HU)) (hba2 b hm)) (unhide HL) (by have := unhide HL; omega))
    have HY := hide (And.intro hY (And.intro hba2 h0a))
    clear hTa hra h0a hba hka hY hba2
    go_wp2_with fail
    refine (unhide HRUN).mono ?_
    rintro _ Z1 ⟨T1, pw, tv, rfl, hT1, ht1, hfr, hnb, -, hla, -, -, -, -⟩
    generalize Ta.t = t0 at ht1 ⊢
    have hm1 : T1.last ≤ 80400 := by have h1 := (unhide HY).2.2; have h2 := unhide HL; omega
    have HT1 := hide (And.intro hT1 (And.intro ht1 (And.intro hfr (And.intro hnb hm1))))
    have HCL := hide (clone24 T1 Z1 hT1 (by omega))
    rw [ht1] at HCL
    clear hT1 ht1 hfr hnb hla hm1 HRUN
    go_wp2_with fail
    refine (unhide HCL).mono ?_
    rintro _ Z2 ⟨C, rfl, hC, hcl, hcla, hcb, k2⟩
    have HC := hide (And.intro hC (And.intro hcl (And.intro hcla (And.intro hcb k2))))
    clear hC hcl hcla hcb k2 HCL
    have hlv : T1.live.length ≤ 80400 := by have h1 := T1.live_le; have h2 := (unhide HT1).1.len; have h3 := (unhide HT1).2.2.2.2; omega
    have HPR := hide (props27 T1 Z2 ((unhide HT1).1.on (unhide HC).2.2.2.2) (by have h3 := (unhide HT1).2.2.2.2; omega) (by omega))
    rw [(unhide HT1).2.1] at HPR
    have HLV := hide hlv
    clear hlv
    go_wp2_with fail
    refine (unhide HPR).mono ?_
    rintro _ Z3 ⟨v, rfl, hov, k3⟩
    have hLW := LW.start (unhide HY).1 (unhide HY).2.1 (unhide HT1).1 (unhide HT1).2.2.1 (unhide HT1).2.2.2.1 (unhide HC).1 (unhide HC).2.1 (by have h1 := (unhide HC).2.2.1; have h2 := unhide HLV; omega) (unhide HC).2.2.2.1 (unhide HC).2.2.2.2 hov k3
    have hOn := once_live (unhide HT1).1
    have hGd := live_good (unhide HT1).1
    have hN : (T1.live.map RR.pr).length ≤ 80400 := by rw [List.length_map]; exact unhide HLV
    have hI0 : LI w Z3 t0 T1 C v (T1.live.map RR.pr) 0 T1.last := ⟨hLW, (unhide HT1).2.1, by omega, by rw [rot_zero, prA_abs]⟩
    have hm1 := (unhide HT1).2.2.2.2
    clear hov k3 hLW HPR HC HT1 HY HLV
    generalize T1.live.map RR.pr = prs at *
    obtain ⟨m, hm⟩ : ∃ m, m = T1.last := ⟨_, rfl⟩
    rw [← hm] at hI0 hm1
    clear hm
    obtain ⟨VA, vc, rfl⟩ := own_form hI0.1.own
    have HON := hide (And.intro hOn (And.intro hGd (And.intro hN hm1)))
    have HI0 := hide hI0
    clear hOn hGd hN hm1 hI0
    go_wp2_with fail
    go_loopg [6] prs.length (fun gm s6 wr => ∃ (i : Nat) (T : TT), s6 = .int .i64 (i : Nat) ∧ i ≤ prs.length ∧ prs.length - i ≤ gm ∧ Hid (LI w wr t0 T C (.slice VA prs.length vc) prs i m))
    case atStart => exact ⟨0, T1, rfl, by omega, by omega, HI0⟩
    case round =>
      clear HI0
      obtain ⟨i, T, rfl, hil, hgm, HI⟩ := hrel
      by_cases hlt : i < prs.length
      · have dlt : decide ((i : Int) < (prs.length : Int)) = true := decide_eq_true (by omega)
        have hw1 : IntKind.i64.wrap ((i : Int) + 1) = (i : Int) + 1 := by have := (unhide HON).2.2.1; rw [IntKind.wrap_i64]; omega
        obtain ⟨g, hVA⟩ := (unhide HI).1.slice hlt
        subst hVA
        obtain ⟨k, d, hkd⟩ : ∃ k d, prs[i] = (k, d) := ⟨_, _, rfl⟩
        have hGk : goodK k = true := by have := (unhide HON).2.1 prs[i] (List.getElem_mem hlt); rw [hkd] at this; exact this
        have hMi : m + i < 300000 := by have := (unhide HON).2.2.1; have := (unhide HON).2.2.2; omega
        have hOn := (unhide HON).1
        clear hil
        go_wp2_with (first | go_skip | ((with_reducible show wpList _ _ _ _ _ _); first | ((refine vl (by rfl) (ex_lenG 25 54 Tryd.underlying25 rfl rfl) ?_); simp only [Act.put, List.setIfInBounds_toArray, List.set_cons_succ, List.set_cons_zero])))
        have hL1 : LI w _ t0 T C (.slice (some ⟨g, 0, none⟩) prs.length vc) prs i m := ⟨(unhide HI).1.on ((Below.refl _ _).drew), (unhide HI).2⟩
        have HD := hide (And.intro hL1 trivial)
        have hS1 := hL1.1.rowAt hlt hkd
        refine wp_region_held_drew (P := Tryd.prog) (S := fun X => X.rangeAt g (0 + i * 20) (k.cs ++ d.cs)) (by kernel_rfl) hS1 (fun hS0 => ?_)
        refine gsem 0 (some 27) (.pointer (some ⟨t0, 0, none⟩)) rfl (by kernel_rfl) (by kernel_rfl) (by kernel_rfl) (fun _ _ _ h => h) (by kernel_rfl) (by kernel_rfl) (fun _ _ => by kernel_rfl) hS1 ?_
        simp only [Act.put, List.setIfInBounds_toArray, List.set_cons_succ, List.set_cons_zero]
        refine gsem 1 (some 28) (.slice (some ⟨g, 0, none⟩) prs.length vc) rfl (by kernel_rfl) (by kernel_rfl) (by kernel_rfl) (fun _ _ _ h => h) (by kernel_rfl) (by kernel_rfl) (fun _ _ => by kernel_rfl) hS1 ?_
        simp only [Act.put, List.setIfInBounds_toArray, List.set_cons_succ, List.set_cons_zero]
        refine gsem 2 (some 29) (.int .i64 (i : Nat)) rfl (by kernel_rfl) (by kernel_rfl) (by kernel_rfl) (fun _ _ _ h => h) (by kernel_rfl) (by kernel_rfl) (fun _ _ => by kernel_rfl) hS1 ?_
        simp only [Act.put, List.setIfInBounds_toArray, List.set_cons_succ, List.set_cons_zero]
        refine gsem 3 (some 30) (.pointer (some ⟨g, 0 + i * 20, none⟩)) rfl (by kernel_rfl) (by kernel_rfl) (by kernel_rfl) (fun _ _ _ h => h) (by kernel_rfl) (by kernel_rfl) (fun X hX => ex_indexG 25 20 i unRw idRw rfl rfl rfl hlt) hS1 ?_
        simp only [Act.put, List.setIfInBounds_toArray, List.set_cons_succ, List.set_cons_zero]
        refine gsem 4 (some 31) (.pointer (some ⟨g, 0 + i * 20, none⟩)) rfl (by kernel_rfl) (by kernel_rfl) (by kernel_rfl) (fun _ _ _ h => h) (by kernel_rfl) (by kernel_rfl) (fun _ _ => by kernel_rfl) hS1 ?_
        simp only [Act.put, List.setIfInBounds_toArray, List.set_cons_succ, List.set_cons_zero]
        refine gsem 5 (some 32) (.agg k.cs.toArray) rfl (by kernel_rfl) (by kernel_rfl) (by kernel_rfl) (fun _ _ _ h => h) (by kernel_rfl) (by kernel_rfl) (fun X hX => ex_loadR (vs := k.cs) 34 2 row33x siz33 rfl rfl (range_left (a := k.cs) (c := d.cs) hX) rfl) hS1 ?_
        simp only [Act.put, List.setIfInBounds_toArray, List.set_cons_succ, List.set_cons_zero]
        refine wpAnyH_ready (rs := [6]) (by kernel_rfl) (by simp) (gcallR 6 (some 33) rfl (by kernel_rfl) (by kernel_rfl) (by kernel_rfl) ((unhide HD).1.del hlt hkd hOn hGk hMi) ?_ AllReadyH.nil)
        rintro e Y6 ⟨rfl, T2, hL2, ht2, hn2, hp2⟩
        have hS2 := hL2.rowAt hlt hkd
        refine ⟨_, rfl, hS2, ?_⟩
        simp only [Act.put, List.setIfInBounds_toArray, List.set_cons_succ, List.set_cons_zero]
        refine gsem 7 (some 34) (.bool false) rfl (by kernel_rfl) (by kernel_rfl) (by kernel_rfl) (fun _ _ _ h => h) (by kernel_rfl) (by kernel_rfl) (fun _ _ => by kernel_rfl) hS2 ?_
        simp only [Act.put, List.setIfInBounds_toArray, List.set_cons_succ, List.set_cons_zero]
        refine gsem 8 (some 35) (.bool false) rfl (by kernel_rfl) (by kernel_rfl) (by kernel_rfl) (fun _ _ _ h => h) (by kernel_rfl) (by kernel_rfl) (fun _ _ => by kernel_rfl) hS2 ?_
        simp only [Act.put, List.setIfInBounds_toArray, List.set_cons_succ, List.set_cons_zero]
        refine gsem 9 (some 36) (.pointer (some ⟨t0, 0, none⟩)) rfl (by kernel_rfl) (by kernel_rfl) (by kernel_rfl) (fun _ _ _ h => h) (by kernel_rfl) (by kernel_rfl) (fun _ _ => by kernel_rfl) hS2 ?_
        simp only [Act.put, List.setIfInBounds_toArray, List.set_cons_succ, List.set_cons_zero]
        refine gsem 10 (some 37) (.slice (some ⟨g, 0, none⟩) prs.length vc) rfl (by kernel_rfl) (by kernel_rfl) (by kernel_rfl) (fun _ _ _ h => h) (by kernel_rfl) (by kernel_rfl) (fun _ _ => by kernel_rfl) hS2 ?_
        simp only [Act.put, List.setIfInBounds_toArray, List.set_cons_succ, List.set_cons_zero]
        refine gsem 11 (some 38) (.int .i64 (i : Nat)) rfl (by kernel_rfl) (by kernel_rfl) (by kernel_rfl) (fun _ _ _ h => h) (by kernel_rfl) (by kernel_rfl) (fun _ _ => by kernel_rfl) hS2 ?_
        simp only [Act.put, List.setIfInBounds_toArray, List.set_cons_succ, List.set_cons_zero]
        refine gsem 12 (some 39) (.pointer (some ⟨g, 0 + i * 20, none⟩)) rfl (by kernel_rfl) (by kernel_rfl) (by kernel_rfl) (fun _ _ _ h => h) (by kernel_rfl) (by kernel_rfl) (fun X hX => ex_indexG 25 20 i unRw idRw rfl rfl rfl hlt) hS2 ?_
        simp only [Act.put, List.setIfInBounds_toArray, List.set_cons_succ, List.set_cons_zero]
        refine gsem 13 (some 40) (.pointer (some ⟨g, 0 + i * 20, none⟩)) rfl (by kernel_rfl) (by kernel_rfl) (by kernel_rfl) (fun _ _ _ h => h) (by kernel_rfl) (by kernel_rfl) (fun _ _ => by kernel_rfl) hS2 ?_
        simp only [Act.put, List.setIfInBounds_toArray, List.set_cons_succ, List.set_cons_zero]
        refine gsem 14 (some 41) (.agg k.cs.toArray) rfl (by kernel_rfl) (by kernel_rfl) (by kernel_rfl) (fun _ _ _ h => h) (by kernel_rfl) (by kernel_rfl) (fun X hX => ex_loadR (vs := k.cs) 34 2 row33x siz33 rfl rfl (range_left (a := k.cs) (c := d.cs) hX) rfl) hS2 ?_
        simp only [Act.put, List.setIfInBounds_toArray, List.set_cons_succ, List.set_cons_zero]
        refine gsem 15 (some 42) (.slice (some ⟨g, 0, none⟩) prs.length vc) rfl (by kernel_rfl) (by kernel_rfl) (by kernel_rfl) (fun _ _ _ h => h) (by kernel_rfl) (by kernel_rfl) (fun _ _ => by kernel_rfl) hS2 ?_
        simp only [Act.put, List.setIfInBounds_toArray, List.set_cons_succ, List.set_cons_zero]
        refine gsem 16 (some 43) (.int .i64 (i : Nat)) rfl (by kernel_rfl) (by kernel_rfl) (by kernel_rfl) (fun _ _ _ h => h) (by kernel_rfl) (by kernel_rfl) (fun _ _ => by kernel_rfl) hS2 ?_
        simp only [Act.put, List.setIfInBounds_toArray, List.set_cons_succ, List.set_cons_zero]
        refine gsem 17 (some 44) (.pointer (some ⟨g, 0 + i * 20, none⟩)) rfl (by kernel_rfl) (by kernel_rfl) (by kernel_rfl) (fun _ _ _ h => h) (by kernel_rfl) (by kernel_rfl) (fun X hX => ex_indexG 25 20 i unRw idRw rfl rfl rfl hlt) hS2 ?_
        simp only [Act.put, List.setIfInBounds_toArray, List.set_cons_succ, List.set_cons_zero]
        refine gsem 18 (some 45) (.pointer (some ⟨g, 0 + i * 20 + 2, none⟩)) rfl (by kernel_rfl) (by kernel_rfl) (by kernel_rfl) (fun _ _ _ h => h) (by kernel_rfl) (by kernel_rfl) (fun _ _ => by kernel_rfl) hS2 ?_
        simp only [Act.put, List.setIfInBounds_toArray, List.set_cons_succ, List.set_cons_zero]
        refine gsem 19 (some 46) (.agg d.cs.toArray) rfl (by kernel_rfl) (by kernel_rfl) (by kernel_rfl) (fun _ _ _ h => h) (by kernel_rfl) (by kernel_rfl) (fun X hX => ex_loadR (vs := d.cs) 40 18 row39 siz39 rfl rfl (range_right (a := k.cs) (c := d.cs) hX) rfl) hS2 ?_
        simp only [Act.put, List.setIfInBounds_toArray, List.set_cons_succ, List.set_cons_zero]
        refine wpAnyH_ready (rs := [20]) (by kernel_rfl) (by simp) (gcallR 20 (some 47) rfl (by kernel_rfl) (by kernel_rfl) (by kernel_rfl) (hL2.put ht2 hn2 hp2 hlt hkd hOn hGk hMi (unhide HU)) ?_ AllReadyH.nil)
        rintro e Y20 ⟨rfl, T3, hL3⟩
        have hS3 := hL3.1.rowAt hlt hkd
        refine ⟨_, rfl, hS3, ?_⟩
        simp only [Act.put, List.setIfInBounds_toArray, List.set_cons_succ, List.set_cons_zero]
        refine wpAnyH_ready (rs := [21]) (by kernel_rfl) (by simp) (gcallR 21 (some 48) rfl (by kernel_rfl) (by kernel_rfl) (by kernel_rfl) (num11 0 (by omega) _) ?_ AllReadyH.nil)
        rintro e Y21 ⟨rfl, hb21⟩
        have hL4 : LI w _ t0 T3 C (.slice (some ⟨g, 0, none⟩) prs.length vc) prs (i + 1) m := ⟨hL3.1.on hb21, hL3.2⟩
        have hS4 := hL4.1.rowAt hlt hkd
        refine ⟨_, rfl, hS4, ?_⟩
        simp only [Act.put, List.setIfInBounds_toArray, List.set_cons_succ, List.set_cons_zero]
        refine gsem 22 (some 49) (.bool false) rfl (by kernel_rfl) (by kernel_rfl) (by kernel_rfl) (fun _ _ _ h => h) (by kernel_rfl) (by kernel_rfl) (fun X hX => ex_neqZ rfl rfl rfl rfl) hS4 ?_
        simp only [Act.put, List.setIfInBounds_toArray, List.set_cons_succ, List.set_cons_zero]
        refine gsem 23 (some 50) (.bool false) rfl (by kernel_rfl) (by kernel_rfl) (by kernel_rfl) (fun _ _ _ h => h) (by kernel_rfl) (by kernel_rfl) (fun _ _ => by kernel_rfl) hS4 ?_
        simp only [Act.put, List.setIfInBounds_toArray, List.set_cons_succ, List.set_cons_zero]
        refine wpAnyH_done (by kernel_rfl) ?_ _
        try simp only [Act.put, List.setIfInBounds_toArray, List.set_cons_succ, List.set_cons_zero]
        have HN := hide hL4
        have HLT := hide hlt
        clear hL1 HD hS1 hS2 hS3 hS4 hL2 hL3 hL4 hS0 ht2 hn2 hp2 hb21 hkd hGk hMi hOn hlt
        go_wp2
        go_roundg (prs.length - (i + 1))
        case measure => have := unhide HLT; omega
        case rel => exact ⟨i + 1, T3, by go_num, by have := unhide HLT; omega, by omega, HN⟩
      · obtain rfl : i = prs.length := by omega
        have HE := hide (show LW w _ T C (.slice VA prs.length vc) prs ∧ T.t = t0 ∧ T.last ≤ m + prs.length ∧ prA (abs T) = prs from ⟨(unhide HI).1, (unhide HI).2.1, (unhide HI).2.2.1, by rw [(unhide HI).2.2.2, rot_all]⟩)
        clear hlt hil HI
        go_wp2_with (first | go_skip | ((with_reducible show wpList _ _ _ _ _ _); first | ((refine vl (by rfl) (ex_lenG 25 54 Tryd.underlying25 rfl rfl) ?_); simp only [Act.put, List.setIfInBounds_toArray, List.set_cons_succ, List.set_cons_zero])))
        refine ((unhide HE).1.sameT (unhide HE).2.1 (unhide HE).2.2.2 (by have := (unhide HON).2.2.1; have := (unhide HON).2.2.2; have := (unhide HE).2.2.1; omega) (by have := (unhide HON).2.2.1; omega)).mono ?_
        rintro _ P1 ⟨u1, rfl, hL, hu⟩
        have HU1 := hide (And.intro hL hu)
        clear hL hu
        go_wp2_with fail
        refine (sameProps31 u1 _ _ _ prs _ (unhide HU1).2 (unhide HU1).1.own (by have := (unhide HON).2.2.1; omega)).mono ?_
        rintro _ Q1 ⟨rfl, hb⟩
        have HL1 := hide ((unhide HU1).1.on hb)
        clear hb HU1
        go_wp2_with fail
        refine ((unhide HL1).sameC (by have := (unhide HON).2.2.1; omega)).mono ?_
        rintro _ P2 ⟨u2, rfl, hL, hu⟩
        have HU2 := hide (And.intro hL hu)
        clear hL hu
        go_wp2_with fail
        refine (sameProps31 u2 _ _ _ prs _ (unhide HU2).2 (unhide HU2).1.own (by have := (unhide HON).2.2.1; omega)).mono ?_
        rintro _ Q2 ⟨rfl, hb⟩
        have HL2 := hide ((unhide HU2).1.on hb)
        clear hb HU2
        go_wp2_with fail
        have HJ0 : Hid (LJ w _ t0 T C (.slice VA prs.length vc) prs 0 (m + prs.length)) := hide ⟨unhide HL2, (unhide HE).2.1, (unhide HE).2.2.1, by rw [List.drop_zero]; exact (unhide HE).2.2.2⟩
        clear HL1 HL2 HE
        go_loopg [7] prs.length (fun gm s7 wr => ∃ (j : Nat) (T4 : TT), s7 = .int .i64 (j : Nat) ∧ j ≤ prs.length ∧ prs.length - j ≤ gm ∧ Hid (LJ w wr t0 T4 C (.slice VA prs.length vc) prs j (m + prs.length)))
        case atStart => exact ⟨0, T, rfl, by omega, by omega, HJ0⟩
        case round =>
          clear HJ0
          obtain ⟨j, T4, rfl, hil, hgm2, HJ⟩ := hrel
          by_cases hlt : j < prs.length
          · have dlt : decide ((j : Int) < (prs.length : Int)) = true := decide_eq_true (by omega)
            have hw1 : IntKind.i64.wrap ((j : Int) + 1) = (j : Int) + 1 := by have := (unhide HON).2.2.1; rw [IntKind.wrap_i64]; omega
            obtain ⟨g, hVA⟩ := (unhide HJ).1.slice hlt
            subst hVA
            obtain ⟨k, d, hkd⟩ : ∃ k d, prs[j] = (k, d) := ⟨_, _, rfl⟩
            have hGk : goodK k = true := by have := (unhide HON).2.1 prs[j] (List.getElem_mem hlt); rw [hkd] at this; exact this
            have HRW := hide ((unhide HJ).1.rowAt hlt hkd)
            have HRX := hide ((congrArg (fun z => wr.rangeAt g z (k.cs ++ d.cs)) (Nat.zero_add (j * 20))) ▸ unhide HRW : wr.rangeAt g (j * 20) (k.cs ++ d.cs))
            have HDL := hide ((unhide HJ).del hlt hkd (unhide HON).1 hGk (by have := (unhide HON).2.2.1; have := (unhide HON).2.2.2; omega))
            have HLT := hide hlt
            clear hil hlt hkd hGk
            go_wp2_with (first | go_skip | ((with_reducible show wpList _ _ _ _ _ _); first | ((refine vl (by rfl) (ex_lenG 25 54 Tryd.underlying25 rfl rfl) ?_); simp only [Act.put, List.setIfInBounds_toArray, List.set_cons_succ, List.set_cons_zero]) | ((refine vl (by rfl) (ex_indexG 25 20 j unRw idRw rfl rfl rfl (unhide HLT)) ?_); simp only [Act.put, List.setIfInBounds_toArray, List.set_cons_succ, List.set_cons_zero]) | ((refine vl (by rfl) (ex_loadR (vs := k.cs) 34 2 row33x siz33 rfl rfl (range_left (a := k.cs) (c := d.cs) (unhide HRW)) rfl) ?_); simp only [Act.put, List.setIfInBounds_toArray, List.set_cons_succ, List.set_cons_zero]) | ((refine vl (by rfl) (ex_loadR (vs := k.cs) 34 2 row33x siz33 rfl rfl (range_left (a := k.cs) (c := d.cs) (unhide HRX)) rfl) ?_); simp only [Act.put, List.setIfInBounds_toArray, List.set_cons_succ, List.set_cons_zero])))
            refine (unhide HDL).mono ?_
            rintro _ D2 ⟨rfl, T5, hL5⟩
            have HN := hide hL5
            clear hL5 HDL HRW HRX
            go_wp2
            go_roundg (prs.length - (j + 1))
            case measure => have := unhide HLT; omega
            case rel => exact ⟨j + 1, T5, by go_num, by have := unhide HLT; omega, by omega, HN⟩
          · obtain rfl : j = prs.length := by omega
            clear hlt hil
            go_wp2_with (first | go_skip | ((with_reducible show wpList _ _ _ _ _ _); first | ((refine vl (by rfl) (ex_lenG 25 54 Tryd.underlying25 rfl rfl) ?_); simp only [Act.put, List.setIfInBounds_toArray, List.set_cons_succ, List.set_cons_zero])))
            obtain ⟨hLW, ht, hla, hpr⟩ := unhide HJ
            rw [List.drop_length, prA_abs] at hpr
            have hl0 : T4.live.length = 0 := by simpa using hpr
            have HLN := hide (len30 T4 _ hLW.tis)
            rw [ht, hl0] at HLN
            have HLW := hide hLW
            clear hLW ht hla hpr hl0
            refine (unhide HLN).mono ?_
            rintro _ X9 ⟨rfl, hX9⟩
            subst hX9
            go_wp2_with fail
            refine ((unhide HLW).sameC (by have := (unhide HON).2.2.1; omega)).mono ?_
            rintro _ P3 ⟨u3, rfl, hL, hu⟩
            have HU3 := hide (And.intro hL hu)
            clear hL hu
            go_wp2_with fail
            refine (sameProps31 u3 _ _ _ prs _ (unhide HU3).2 (unhide HU3).1.own (by have := (unhide HON).2.2.1; omega)).mono ?_
            rintro _ Q3 ⟨rfl, hb⟩
            have HL3 := hide ((unhide HU3).1.on hb)
            clear hb HU3
            go_wp2_with fail
            go_ret
            exact ⟨rfl, (unhide HL3).fr.below⟩
  · rw [decide_eq_false h400]
    go_wp2
    go_ret
    exact ⟨rfl, unhide HB1⟩
end Go.Proofs.YtmemceindohklaaDoor
