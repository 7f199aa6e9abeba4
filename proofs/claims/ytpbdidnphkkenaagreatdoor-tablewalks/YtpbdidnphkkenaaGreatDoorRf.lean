import Derived.Test.YtpbdidnphkkenaaGreatDoorRe
set_option linter.all false
namespace Go.Proofs.YtpbdidnphkkenaaGreatDoor
set_option maxHeartbeats 1000000
section
open Go Go.Proofs Go.Maps Go.RowKit
theorem good_ok {k : KK} (h : goodK k = true) : OkK k := by
  have h1 := goodK_size h
  have h2 := goodK_n h
  refine ⟨by unfold maxLen; omega, ?_⟩
  show (decide (IntKind.i64.min ≤ k.n) && decide (k.n ≤ IntKind.i64.max)) = true
  have e1 : IntKind.i64.min = -9223372036854775808 := by decide
  have e2 : IntKind.i64.max = 9223372036854775807 := by decide
  rw [e1, e2, Bool.and_eq_true]
  exact ⟨decide_eq_true (by omega), decide_eq_true (by omega)⟩
/-- A row that is gone. -/
def goneR (r : RR) : RR := ⟨r.b, zeroK, zeroD, r.n, true⟩
theorem ex_build77g {o : Oper} {a : Act} {w : World} {x c : Operand} {n : Nat} (ho : o.op = .build 77 #[(1, x), (2, c)]) (hx : a.eval x = .int .u64 (n : Nat)) (hc : a.eval c = .bool true) : (execOp a.eval o).run Tryz.prog w = .ok (.value (.agg (RR.mk 0 zeroK zeroD n true).cs.toArray)) w := by
  have e : (Instr.build 77 #[(1, .int .u64 (n : Nat)), (2, .bool true)]).run Tryz.prog w = .ok (.agg (RR.mk 0 zeroK zeroD n true).cs.toArray) w := by kernel_rfl
  unfold execOp
  simp only [ho, List.map_toArray, List.map_cons, List.map_nil, hx, hc]
  simp [e]
theorem siz77 (r : RR) : (Tryz.prog.info? 77).map (·.size) = some r.cs.length := by rw [rcs_length]; kernel_rfl
theorem one77 (r : RR) : ∀ u ∈ r.cs, u.oneCell' = true := by simp [RR.cs, KK.cs, DD.cs, VV.cs, Value.oneCell']
theorem leave37 (r : RR) (w : World) (h : Holds w r.b r.cs) : Calls Tryz.prog 37 #[.pointer (some ⟨r.b, 0, none⟩)] w fun e w' => e = .returned (.tuple #[]) ∧ Holds w' r.b (goneR r).cs ∧ Fr w w' [r.b] := by
  have HH := hide h
  clear h
  go_enter Tryz.func37, Tryz.ntmps37
  go_wp2_with (first | go_skip | ((with_reducible show wpList _ _ _ _ _ _); first | ((refine rd (by rfl) (ex_load1 71 Tryz.isAgg71 rfl rfl (unhide HH) rfl) ?_); simp only [Act.put, nzA, nzB, nzC]) | ((refine rd (by rfl) (ex_build77g rfl rfl rfl) ?_); simp only [Act.put, nzA, nzB, nzC]) | ((with_reducible apply stx (t := 77) (b := r.b) (p := 0) (cs := r.cs) (vs := (RR.mk 0 zeroK zeroD r.n true).cs) (v := .agg (RR.mk 0 zeroK zeroD r.n true).cs.toArray)); (case hw => rfl); (case ho => rfl); (case hx => rfl); (case hy => rfl); (case hv => exact rfl); (case h1 => exact one77 _); (case hi => exact siz77 _); (case hH => exact unhide HH); (case hp => exact (by simp [rcs_length])); simp only [Act.put, nzA, nzB, nzC])))
  go_end0
  refine ⟨rfl, ?_, Fr.setCells _ _ _ _⟩
  have := (unhide HH).put 0 (RR.mk 0 zeroK zeroD r.n true).cs (by simp [rcs_length])
  exact this
theorem own_mono {w : World} {base base' e s n : Nat} {v : Value} {xs : List Value} (h : w.ownsRow base e s v n xs) (hb : base' ≤ base) : w.ownsRow base' e s v n xs := by
  obtain ⟨h1, h2⟩ := h
  refine ⟨h1, ?_⟩
  rcases h2 with h2 | ⟨g, cap, cur, rfl, h3, h4⟩
  · exact .inl h2
  · exact .inr ⟨g, cap, cur, rfl, Nat.le_trans hb h3, h4⟩
/-- The table with the rows that stand alone. -/
def TT.packed (T : TT) (m : Nat) (rv : Value) : TT := ⟨T.t, m, rv, T.live, T.last⟩
theorem TT.packed_live (T : TT) (m : Nat) (rv : Value) : (T.packed m rv).live = T.live := by
  unfold TT.packed TT.live
  simp
theorem TT.packed_find (T : TT) (m : Nat) (rv : Value) (k : KK) : (T.packed m rv).find k = T.find k := by
  unfold TT.find
  rw [TT.packed_live]
theorem TT.live_rows {T : TT} (h : T.rows.length - T.live.length = 0) : T.live = T.rows := by
  have h1 := T.live_le
  unfold TT.live at *
  rw [List.filter_eq_self]
  exact List.length_filter_eq_length_iff.1 (by omega)
structure TApart (T : TT) : Prop where
  tm : T.t ≠ T.m
  tv : ∀ g, T.rv.ownBlock = some g → g ≠ T.t ∧ g ≠ T.m ∧ g ∉ T.rows.map (·.b)
  tr : T.t ∉ T.rows.map (·.b)
  mr : T.m ∉ T.rows.map (·.b)
  rr : (T.rows.map (·.b)).Nodup
theorem TT.apart {T : TT} (h : T.blocks.Nodup) : TApart T := by
  unfold TT.blocks at h
  rw [List.nodup_cons, List.nodup_cons, List.nodup_append] at h
  obtain ⟨h1, h2, h3, h4, h5⟩ := h
  simp only [List.mem_cons, List.mem_append, not_or] at h1 h2
  refine ⟨h1.1, fun g hg => ⟨fun e => h1.2.1 (by rw [hg, e]; simp), fun e => h2.1 (by rw [hg, e]; simp), fun hm => h5 g (by rw [hg]; simp) g hm rfl⟩, h1.2.2, h2.2, h4⟩
theorem TApart.nodup {T : TT} (h : TApart T) : T.blocks.Nodup := by
  unfold TT.blocks
  rw [List.nodup_cons, List.nodup_cons, List.nodup_append]
  refine ⟨?_, ?_, ?_, h.rr, ?_⟩
  · simp only [List.mem_cons, List.mem_append, not_or]
    refine ⟨h.tm, fun hm => ?_, h.tr⟩
    exact (h.tv T.t (by simpa using hm)).1 rfl
  · simp only [List.mem_append, not_or]
    exact ⟨fun hm => (h.tv T.m (by simpa using hm)).2.1 rfl, h.mr⟩
  · cases T.rv.ownBlock <;> simp
  · intro a ha b hb e
    subst e
    exact (h.tv a (by simpa using ha)).2.2 hb
theorem live_sub (T : TT) : ∀ b ∈ T.live.map (·.b), b ∈ T.rows.map (·.b) := by
  intro b hb
  obtain ⟨r, hr, rfl⟩ := List.mem_map.1 hb
  exact List.mem_map.2 ⟨r, (List.mem_filter.1 hr).1, rfl⟩
theorem TApart.packed {T : TT} (h : TApart T) {m : Nat} {rv : Value} (hm : m = T.m ∨ m ∉ T.blocks) (hv : ∀ g, rv.ownBlock = some g → (T.rv.ownBlock = some g ∨ g ∉ T.blocks) ∧ g ≠ m) : TApart (T.packed m rv) := by
  have hmt : T.t ≠ m := by
    rcases hm with rfl | hm
    · exact h.tm
    · intro e; exact hm (by rw [← e]; simp [TT.blocks])
  have hrb : ∀ b ∈ T.rows.map (·.b), b ∈ T.blocks := fun b hb => by
    unfold TT.blocks
    simp only [List.mem_cons, List.mem_append]
    exact .inr (.inr (.inr hb))
  refine ⟨hmt, fun g hg => ⟨?_, (hv g hg).2, ?_⟩, fun hx => h.tr (live_sub T _ hx), fun hx => ?_, ?_⟩
  · intro e
    rcases (hv g hg).1 with h1 | h1
    · exact (h.tv g h1).1 e
    · exact h1 (by rw [e]; simp [TT.blocks, TT.packed])
  · intro hx
    rcases (hv g hg).1 with h1 | h1
    · exact (h.tv g h1).2.2 (live_sub T _ hx)
    · exact h1 (hrb _ (live_sub T _ hx))
  · rcases hm with rfl | hm
    · exact h.mr (live_sub T _ hx)
    · exact hm (hrb _ (live_sub T _ hx))
  · exact List.Sublist.nodup (List.Sublist.map _ List.filter_sublist) h.rr
theorem TT.Is.pack {T : TT} {w X : World} {m : Nat} {rv : Value} (hT : T.Is w) (htab : Holds X T.t [.map (some m), rv, .int .u64 T.last]) (hmap : MapIs X m T.last T.live.length (fun k => (T.find k).map (·.b))) (hown : OwnP X rv (T.live.map (·.b))) (hrows : ∀ r ∈ T.live, Holds X r.b r.cs)
    (hm : m = T.m ∨ m ∉ T.blocks) (hv : ∀ g, rv.ownBlock = some g → (T.rv.ownBlock = some g ∨ g ∉ T.blocks) ∧ g ≠ m) : (T.packed m rv).Is X := by
  have hf : (fun k => ((T.packed m rv).find k).map (·.b)) = (fun k => (T.find k).map (·.b)) := by
    funext k
    rw [TT.packed_find]
  refine ⟨htab, ?_, hown, hrows, ((TT.apart hT.nd).packed hm hv).nodup, hT.rise.sublist List.filter_sublist, fun r hr => hT.num r (List.mem_filter.1 hr).1, ?_, ?_⟩
  · rw [hf, TT.packed_live]
    exact hmap
  · rw [TT.packed_live]
    exact hT.keys
  · rw [TT.packed_live]
    exact hT.good
/-- make of a slice of length nought. -/
theorem mk_any {ops : Array Oper} {rest : List Oper} {Q : Exit → Act → World → Prop} {w : World} {a : Act} {o : Oper} {t e : TypeId} {size bytes : Nat} {z : Value} {c x : Operand} (n : Nat) (hw : Region.wanted o (yielded ops a.tmps) = true) (ho : o.op = .makeSlice t c x) (hc : a.eval c = .int .i64 0) (hx : a.eval x = .int .i64 (n : Nat))
    (ht : Tryz.prog.underlying t = some (.slice e)) (hi : (Tryz.prog.info? e).map (fun i => (i.zero, i.size, i.bytes)) = some (some z, size, bytes)) (hn : n ≤ 3000000) (hs : size ≤ 100) (hby : bytes ≤ 10000)
    (h : ∀ wm, wm.ownsRow w.heap.size e size (.slice (some ⟨w.heap.size, 0, none⟩) 0 n) 0 [] → Below w.heap.size w wm → wpList Tryz.prog ops Q rest (a.put o.dst (.slice (some ⟨w.heap.size, 0, none⟩) 0 n)) wm) : wpList Tryz.prog ops Q (o :: rest) a w := by
  obtain ⟨i0, hi, hz0, hz1, hz2⟩ := info_parts hi
  obtain ⟨wm, hrun, hm1, hm2⟩ := run_make_own (P := Tryz.prog) w w.heap.size t e i0 _ size ht hi hz0 hz1 .i64 .i64 n (by rw [hz2]; exact Nat.le_trans (Nat.mul_le_mul hby hn) (by decide)) (by unfold maxLen; omega) (Nat.le_refl _)
  refine BigFrame.wpList_want hw fun K hK => ?_
  have hP := hK _ _ (h wm hm1 ⟨hm2.os, hm2.tape, hm2.output, hm2.size, fun k hk => hm2.block k hk (by simp)⟩)
  unfold Oper.wp execOp
  simp only [ho, hc, hx]
  simp [hrun]
  exact hP
theorem ptrs_get (l : List RR) (j : Nat) (hj : j < l.length) : (ptrs (l.map (·.b)))[0 + j]? = some (.pointer (some ⟨l[j].b, 0, none⟩)) := by
  simp [ptrs, hj]
theorem ptrs_one (l : List RR) (r : RR) : ptrs ((l ++ [r]).map (·.b)) = ptrs (l.map (·.b)) ++ [.pointer (some ⟨r.b, 0, none⟩)] := by
  simp [ptrs]
def standing (l : List RR) : List RR := l.filter (fun r => !r.gone)
theorem standing_take {l : List RR} {j : Nat} (hj : j < l.length) : standing (l.take (j + 1)) = if l[j].gone then standing (l.take j) else standing (l.take j) ++ [l[j]] := by
  unfold standing
  rw [List.take_succ_eq_append_getElem hj, List.filter_append]
  cases h : l[j].gone <;> simp [h]
/-- The rows that stand, gathered so far. -/
def CG (w1 wr : World) (v : Value) (l : List RR) : Prop := wr.ownsRow w1.heap.size 74 1 v l.length (ptrs (l.map (·.b))) ∧ Below w1.heap.size w1 wr
theorem standing_len (l : List RR) : (standing l).length ≤ l.length := List.length_filter_le _ _
set_option maxRecDepth 100000 in
theorem closeGaps39 (T : TT) (w : World) (hT : T.Is w) (hl : T.last < 3000000) : Calls Tryz.prog 39 #[.pointer (some ⟨T.t, 0, none⟩)] w fun e w' => e = .returned (.tuple #[]) ∧ ∃ rv, (T.packed T.m rv).Is w' ∧ Fr w w' [T.t] ∧ (∀ g, rv.ownBlock = some g → T.rv.ownBlock = some g ∨ w.heap.size ≤ g) := by
  have hlen := hT.len
  have C38 := hide (gaps38 T w hT (by omega))
  by_cases h0 : T.rows.length - T.live.length = 0
  · rw [h0] at C38
    have HT := hide hT
    have he : T.packed T.m T.rv = T := by
      unfold TT.packed
      rw [TT.live_rows h0]
    clear hT hlen hl h0
    go_enter Tryz.func39, Tryz.ntmps39
    go_wp2_with fail
    refine (unhide C38).mono ?_
    rintro _ w1 ⟨rfl, hb⟩
    have HB := hide hb
    clear hb
    go_wp2
    refine bodyPost_ret (results_none rfl _ _ _) rfl ?_
    exact ⟨rfl, T.rv, by rw [he]; exact (unhide HT).on (unhide HB), Fr.of_below (unhide HB) _, fun g hg => .inl hg⟩
  · have hpos : 0 < T.rows.length := by omega
    obtain ⟨A, c, hrv⟩ := own_form hT.own
    have hown : ∀ X, T.Is X → X.ownsRow 0 74 1 (.slice A (T.rows.map (·.b)).length c) (T.rows.map (·.b)).length (ptrs (T.rows.map (·.b))) := fun X hX => hrv ▸ hX.own
    obtain ⟨g, rfl, -, -⟩ := own_some (hown w hT) (by simpa using hpos)
    obtain ⟨n, hn⟩ : ∃ n, n = T.rows.length := ⟨_, rfl⟩
    obtain ⟨gp, hgp⟩ : ∃ gp, gp = T.rows.length - T.live.length := ⟨_, rfl⟩
    rw [← hgp] at C38
    have hgz : ¬ ((gp : Nat) : Int) = 0 := by omega
    have HV : Hid (∀ X, T.Is X → Holds X T.t [.map (some T.m), .slice (some ⟨g, 0, none⟩) n c, .int .u64 T.last]) := hide (fun X hX => by
      have := hX.tab
      unfold TT.cs at this
      rw [hrv, List.length_map, ← hn] at this
      exact this)
    have HG : Hid (∀ X, T.Is X → Holds X g (ptrs (T.rows.map (·.b)))) := hide (fun X hX => own_holds (hown X hX))
    have hlv : T.live.length ≤ 3000000 := by have := T.live_le; omega
    have HRV := hide hrv
    have HT := hide hT
    have HLT := hide hT.lt
    have HAP := hide (TT.apart hT.nd)
    have hn1 : n ≤ 3000000 := by omega
    have Hn := hide hn
    obtain ⟨lv, hlv'⟩ : ∃ lv, lv = T.live.length := ⟨_, rfl⟩
    have HML : Hid (∀ X, T.Is X → MapIs X T.m T.last lv (fun k => (T.find k).map (·.b))) := hide (fun X hX => hlv' ▸ hX.map)
    have hlv2 : lv ≤ 3000000 := by omega
    clear hT hlen hl h0 hpos hrv hown hn hgp hlv hlv'
    go_enter Tryz.func39, Tryz.ntmps39
    go_wp2_with fail
    refine (unhide C38).mono ?_
    rintro _ w1 ⟨rfl, hb⟩
    have HB := hide hb
    have HT1 := hide ((unhide HT).on hb)
    clear hb
    obtain ⟨w2, hw2⟩ : ∃ w2, w2 = w1 := ⟨_, rfl⟩
    replace HT := HT1
    go_wp2_with (first | go_skip | ((with_reducible show wpList _ _ _ _ _ _); first | ((refine rd (by rfl) (ex_load1 69 Tryz.isAgg69 rfl rfl ((unhide HV) _ (unhide HT)) rfl) ?_); simp only [Act.put, nzA, nzB, nzC]) | ((refine rd (by rfl) (ex_len rfl rfl ((unhide HML) _ (unhide HT))) ?_); simp only [Act.put, nzA, nzB, nzC]) | ((refine rd (by rfl) (ex_load1 70 Tryz.isAgg70 rfl rfl ((unhide HV) _ (unhide HT)) rfl) ?_); simp only [Act.put, nzA, nzB, nzC]) | ((refine mk_any (t := 70) (e := 74) (size := 1) (bytes := 8) (z := .pointer none) lv (by rfl) rfl rfl rfl Tryz.underlying70 info74 hlv2 (by decide) (by decide) ?_); intro wm hO hb; replace HT := hide ((unhide HT).on hb); have HC : Hid (CG w1 wm (.slice (some ⟨w1.heap.size, 0, none⟩) 0 lv) []) := hide ⟨hO, hb⟩; clear hO hb; simp only [Act.put, nzA, nzB, nzC])))
    clear hgz C38
    go_loopg [2, 4, 19] n (fun gm s2 s4 s19 wr => ∃ j : Nat, s19 = .int .i64 j ∧ j ≤ n ∧ n - j ≤ gm ∧ Hid (CG w1 wr s2 (standing (T.rows.take j))))
    case atStart => exact ⟨0, rfl, by omega, by omega, HC⟩
    case round =>
      obtain ⟨j, rfl, hj, hg, HR⟩ := hrel
      have HTr := hide ((unhide HT1).on (unhide HR).2)
      by_cases hjl : j < n
      · have hjz : (j : Int) < n := by omega
        have hjr : j < T.rows.length := by have := unhide Hn; omega
        obtain ⟨r, hr⟩ : ∃ r, r = T.rows[j] := ⟨_, rfl⟩
        have HP : Hid ((ptrs (T.rows.map (·.b)))[0 + j]? = some (.pointer (some ⟨r.b, 0, none⟩))) := hide (by rw [hr]; exact ptrs_get T.rows j hjr)
        have HRr := hide ((unhide HTr).rows r (hr ▸ List.getElem_mem hjr))
        have HST := hide (standing_take hjr)
        rw [← hr] at HST
        cases hgn : r.gone with
        | true =>
          have HR2 : Hid (Holds wr r.b (r.k.cs ++ (r.d.cs ++ [.int .u64 r.n, .bool true]))) := hide (hgn ▸ unhide HRr)
          replace HR : Hid (CG w1 wr u2 (standing (T.rows.take (j + 1)))) := hide (by rw [unhide HST, hgn]; exact unhide HR)
          clear hr hgn HRr HST
          go_wp2_with (first | go_skip | ((with_reducible show wpList _ _ _ _ _ _); first | ((refine rd (by rfl) (ex_index70 (off := 0) j rfl rfl rfl hjl) ?_); simp only [Act.put, nzA, nzB, nzC]) | ((refine rd (by rfl) (ex_load1 74 Tryz.isAgg74 rfl rfl ((unhide HG) _ (unhide HTr)) (unhide HP)) ?_); simp only [Act.put, nzA, nzB, nzC]) | ((refine rd (by rfl) (ex_load1 4 Tryz.isAgg4 rfl rfl (unhide HR2) rfl) ?_); simp only [Act.put, nzA, nzB, nzC])))
          go_roundg (n - (j + 1))
          case measure => omega
          case rel => exact ⟨j + 1, by go_num, by omega, Nat.le_refl _, HR⟩
        | false =>
          have HR2 : Hid (Holds wr r.b (r.k.cs ++ (r.d.cs ++ [.int .u64 r.n, .bool false]))) := hide (hgn ▸ unhide HRr)
          have HST2 : Hid (standing (T.rows.take (j + 1)) = standing (T.rows.take j) ++ [r]) := hide (by rw [unhide HST, hgn]; rfl)
          have hsl : Hid ((standing (T.rows.take j)).length + 1 ≤ 4000000) := hide (by have h1 := standing_len (T.rows.take j); rw [List.length_take] at h1; omega)
          clear hr hgn HRr HST
          go_wp2_with (first | go_skip | ((with_reducible show wpList _ _ _ _ _ _); first | ((refine rd (by rfl) (ex_index70 (off := 0) j rfl rfl rfl hjl) ?_); simp only [Act.put, nzA, nzB, nzC]) | ((refine rd (by rfl) (ex_load1 74 Tryz.isAgg74 rfl rfl ((unhide HG) _ (unhide HTr)) (unhide HP)) ?_); simp only [Act.put, nzA, nzB, nzC]) | ((refine rd (by rfl) (ex_load1 4 Tryz.isAgg4 rfl rfl (unhide HR2) rfl) ?_); simp only [Act.put, nzA, nzB, nzC]) | ((refine build_any (t := 70) (e := 74) (size := 1) (bytes := 8) (z := .pointer none) (cs := [.pointer (some ⟨r.b, 0, none⟩)]) (by rfl) rfl rfl Tryz.underlying70 info74 (by decide) rfl rfl (by decide) (Hq.nil wr []) ?_); intro w5 B5 hB5 L5 hb5; have LL := hide L5; have HR5 : Hid (CG w1 w5 u2 (standing (T.rows.take j))) := hide ⟨own_block (unhide HR).1 (fun b hb => hb5.block b (World.ownsRow.lt (unhide HR).1 b hb).2), (unhide HR).2.trans (hb5.mono (unhide HR).2.size)⟩; clear L5 hb5 hB5; simp only [Act.put, nzA, nzB, nzC]) | ((refine append_any (v := u2) rfl rfl rfl rfl Tryz.underlying70 info74 rfl (by decide) (unhide HR5).1 ((unhide LL).get 0 rfl) rfl (by simp [Value.oneCell']) (unhide hsl) (by decide) (unhide HR5).2.size ?_); intro A6 c6 w6 ho6 hg6 hf6; have HR6 : Hid (CG w1 w6 (.slice A6 ((standing (T.rows.take j)).length + 1) c6) (standing (T.rows.take (j + 1)))) := hide ⟨by rw [unhide HST2, ptrs_one, List.length_append]; exact ho6, (((Fr.of_below (unhide HR5).2 []).trans (Fr.grown hg6) (fun b hb => Or.inr (World.ownsRow.lt (unhide HR5).1 b (by simpa using hb)).1)).below)⟩; clear ho6 hg6 hf6; simp only [Act.put, nzA, nzB, nzC])))
          go_roundg (n - (j + 1))
          case measure => omega
          case rel => exact ⟨j + 1, by go_num, by omega, Nat.le_refl _, HR6⟩
      · have hjz : ¬ (j : Int) < n := by omega
        have hst : standing (T.rows.take j) = T.live := by
          have : j = T.rows.length := by have := unhide Hn; omega
          rw [this, List.take_length]
          rfl
        rw [hst] at HR
        obtain ⟨A6, c6, rfl⟩ := own_form (unhide HR).1
        have HBr := hide ((unhide HB).trans ((unhide HR).2.mono (unhide HB).size))
        have hts : T.t < w.heap.size := (unhide HLT) T.t (by simp [TT.blocks])
        have hws := (unhide HB).size
        clear hst
        go_wp2_with (first | go_skip | ((with_reducible show wpList _ _ _ _ _ _); first | ((with_reducible apply stx (t := 70) (b := T.t) (p := 1) (cs := [.map (some T.m), .slice (some ⟨g, 0, none⟩) n c, .int .u64 T.last]) (vs := [.slice A6 T.live.length c6]) (v := .slice A6 T.live.length c6)); (case hw => rfl); (case ho => rfl); (case hx => rfl); (case hy => rfl); (case hv => exact rfl); (case h1 => exact (by simp [Value.oneCell'])); (case hi => exact siz70); (case hH => exact (unhide HV) _ (unhide HTr)); (case hp => exact (by simp)); simp only [Act.put, nzA, nzB, nzC])))
        go_end0
        refine ⟨rfl, .slice A6 T.live.length c6, ?_, (Fr.of_below (unhide HBr) [T.t]).trans (Fr.setCells _ _ _ _) (fun b hb => .inl hb), fun b hb => .inr ?_⟩
        · have hap := unhide HAP
          have hne : ∀ b, b ≠ T.t → (wr.setCells T.t 1 [.slice A6 T.live.length c6]).heap[b]? = wr.heap[b]? := fun b hb => heap_setCells _ _ _ _ _ hb
          refine TT.Is.pack (unhide HT1) ((((unhide HV) _ (unhide HTr)).put 1 [.slice A6 T.live.length c6] (by simp))) ((unhide HTr).map.block (hne _ hap.tm.symm)) ?_ (fun r hr => ((unhide HTr).rows r (List.mem_filter.1 hr).1).block (hne _ (fun e => hap.tr (e ▸ List.mem_map.2 ⟨r, (List.mem_filter.1 hr).1, rfl⟩)))) (.inl rfl) (fun b hb => ?_)
          · have h1 := own_block (w' := wr.setCells T.t 1 [.slice A6 T.live.length c6]) (unhide HR).1 (fun b hb => hne b (by have := (World.ownsRow.lt (unhide HR).1 b hb).1; omega))
            unfold OwnP
            rw [List.length_map]
            exact own_mono h1 (Nat.zero_le _)
          · have h2 := (World.ownsRow.lt (unhide HR).1 b hb).1
            refine ⟨.inr (fun hm => ?_), fun e => ?_⟩
            · have := (unhide HLT) b hm
              omega
            · have := (unhide HLT) T.m (by simp [TT.blocks])
              omega
        · have h2 := (World.ownsRow.lt (unhide HR).1 b hb).1
          omega
theorem run_mm (n : Nat) (w : World) : (Instr.makeMap 69 (some (.int .i64 (n : Nat)))).run Tryz.prog w = .ok (.map (some w.heap.size)) (w.alloc (.map #[] 0)) := by
  simp [Instr.makeMap, go_sem]
theorem siz69 : (Tryz.prog.info? 69).map (·.size) = some 1 := by kernel_rfl
theorem ex_mm {o : Oper} {a : Act} {w : World} {x : Operand} {n : Nat} (ho : o.op = .makeMap 69 (some x)) (hx : a.eval x = .int .i64 (n : Nat)) : (execOp a.eval o).run Tryz.prog w = .ok (.value (.map (some w.heap.size))) (w.alloc (.map #[] 0)) := by
  unfold execOp
  simp only [ho, hx, Option.map_some]
  simp [run_mm]
theorem rdw {ops : Array Oper} {rest : List Oper} {Q : Exit → Act → World → Prop} {w X : World} {a : Act} {o : Oper} {v : Value} (hw : Region.wanted o (yielded ops a.tmps) = true) (hy : (execOp a.eval o).run Tryz.prog w = .ok (.value v) X) (h : wpList Tryz.prog ops Q rest (a.put o.dst v) X) : wpList Tryz.prog ops Q (o :: rest) a w := by
  refine BigFrame.wpList_want hw fun K hK => ?_
  have hP := hK _ _ h
  unfold Oper.wp
  rw [hy]
  exact hP
def fnd (l : List RR) (k : KK) : Option Nat := (l.find? (fun r => decide (r.k = k))).map (·.b)
theorem fnd_take {l : List RR} (hp : l.Pairwise (fun a b => a.k ≠ b.k)) {j : Nat} (hj : j < l.length) : fnd (l.take j) l[j].k = none ∧ putF (fnd (l.take j)) l[j].k (some l[j].b) = fnd (l.take (j + 1)) := by
  have hno : ∀ r ∈ l.take j, r.k ≠ l[j].k := by
    intro r hr
    obtain ⟨i, hi, rfl⟩ := List.mem_take_iff_getElem.1 hr
    exact List.pairwise_iff_getElem.1 hp i j (by omega) hj (by omega)
  have h0 : (l.take j).find? (fun r => decide (r.k = l[j].k)) = none := by
    rw [List.find?_eq_none]
    intro r hr
    simpa using hno r hr
  refine ⟨by unfold fnd; rw [h0]; rfl, ?_⟩
  funext q
  unfold fnd
  rw [List.take_succ_eq_append_getElem hj, List.find?_append]
  by_cases e : q = l[j].k
  · subst e
    rw [h0, putF_same]
    simp
  · rw [putF_other e]
    have e2 : ([l[j]] : List RR).find? (fun r => decide (r.k = q)) = none := by
      simp
      exact fun h => e h.symm
    rw [e2]
    simp
/-- A table's map that is being made anew. -/
structure CPk (T : TT) (w1 wr : World) (A : Option Addr) (n c M j : Nat) : Prop where
  tab : Holds wr T.t [.map (some M), .slice A n c, .int .u64 T.last]
  map : MapIs wr M j j (fnd (T.live.take j))
  fr : Fr w1 wr [T.t]
set_option maxRecDepth 100000 in
theorem compact18 (T : TT) (w : World) (hT : T.Is w) (hl : T.last < 3000000) : Calls Tryz.prog 18 #[.pointer (some ⟨T.t, 0, none⟩)] w fun e w' => e = .returned (.tuple #[]) ∧ ∃ m rv, (T.packed m rv).Is w' ∧ Fr w w' [T.t] ∧ (∀ b ∈ (T.packed m rv).blocks, b ∈ T.blocks ∨ w.heap.size ≤ b) ∧ T.Nu (T.packed m rv) w w' := by
  have C39 := hide (closeGaps39 T w hT hl)
  have HT := hide hT
  have hlen := hT.len
  have hlv := T.live_le
  obtain ⟨n, hn⟩ : ∃ n, n = T.live.length := ⟨_, rfl⟩
  have hn1 : n ≤ 3000000 := by omega
  have hnl : Hid (n ≤ T.last) := hide (by omega)
  have Hn := hide hn
  clear hT hlen hlv hl hn
  go_enter Tryz.func18, Tryz.ntmps18
  go_wp2_with fail
  refine (unhide C39).mono ?_
  clear C39
  rintro _ w1 ⟨rfl, rv, hT1, hf1, hb1⟩
  obtain ⟨A, c, hrv⟩ := own_form hT1.own
  replace hrv : rv = .slice A n c := by
    rw [unhide Hn]
    simpa [TT.packed] using hrv
  subst hrv
  have HV : Hid (Holds w1 T.t [.map (some T.m), .slice A n c, .int .u64 T.last]) := hide hT1.tab
  have HT1 := hide hT1
  have HF1 := hide hf1
  have HB1 := hide hb1
  have HAP := hide (TT.apart hT1.nd)
  have htl : Hid (T.t < w1.heap.size) := hide (hT1.lt T.t (by simp [TT.blocks, TT.packed]))
  clear hT1 hf1 hb1
  go_wp2_with (first | go_skip | ((with_reducible show wpList _ _ _ _ _ _); first | ((refine rd (by rfl) (ex_load1 70 Tryz.isAgg70 rfl rfl (unhide HV) rfl) ?_); simp only [Act.put, nzA, nzB, nzC]) | ((refine rdw (by rfl) (ex_mm rfl rfl) ?_); obtain ⟨M, hM⟩ : ∃ M, M = w1.heap.size := ⟨_, rfl⟩; obtain ⟨w2, hw2⟩ : ∃ w2, w2 = w1.alloc (.map #[] 0) := ⟨_, rfl⟩; have HM := hide hM; have hb2 : Below w1.heap.size w1 w2 := (by rw [hw2]; exact (Below.refl _ _).alloc (Nat.le_refl _) _); have HMP : Hid (MapIs w2 M 0 0 (fnd (T.live.take 0))) := hide (by rw [hw2, hM]; exact MapIs.made w1); rw [← hw2, ← hM]; replace HV := hide ((unhide HV).block (hb2.block T.t (unhide htl))); have HB2 := hide hb2; clear hw2 hM hb2; simp only [Act.put, nzA, nzB, nzC]) | ((with_reducible apply stx (t := 69) (b := T.t) (p := 0) (cs := [.map (some T.m), .slice A n c, .int .u64 T.last]) (vs := [.map (some M)]) (v := .map (some M))); (case hw => rfl); (case ho => rfl); (case hx => rfl); (case hy => rfl); (case hv => exact rfl); (case h1 => exact (by simp [Value.oneCell'])); (case hi => exact siz69); (case hH => exact unhide HV); (case hp => exact (by simp)); (obtain ⟨w3, hw3⟩ : ∃ w3, w3 = w2.setCells T.t 0 [.map (some M)] := ⟨_, rfl⟩); (have HC : Hid (CPk T w1 w3 A n c M 0) := hide ⟨(by rw [hw3]; exact (unhide HV).put 0 [.map (some M)] (by simp)), (by rw [hw3]; exact (unhide HMP).block (heap_setCells _ _ _ _ _ (by have h1 := unhide HM; have h2 := unhide htl; omega))), (by rw [hw3]; exact (Fr.of_below (unhide HB2) [T.t]).trans (Fr.setCells _ _ _ _) (fun b hb => .inl hb))⟩); rw [← hw3]; replace HV := hide (unhide HC).tab; clear hw3; simp only [Act.put, nzA, nzB, nzC])))
  clear HV HMP HB2
  go_loopg [3, 20] n (fun gm s3 s20 wr => ∃ j : Nat, s20 = .int .i64 j ∧ j ≤ n ∧ n - j ≤ gm ∧ Hid (CPk T w1 wr A n c M j))
  case atStart => exact ⟨0, rfl, by omega, by omega, HC⟩
  case round =>
    obtain ⟨j, rfl, hj, hg, HR⟩ := hrel
    by_cases hjl : j < n
    · have hjz : (j : Int) < n := by omega
      have hjr : j < T.live.length := by have := unhide Hn; omega
      have hown : w1.ownsRow 0 74 1 (.slice A (T.live.map (·.b)).length c) (T.live.map (·.b)).length (ptrs (T.live.map (·.b))) := by
        have h1 := (unhide HT1).own
        have e := unhide Hn
        unfold OwnP TT.packed at h1
        simp only at h1
        rw [List.length_map, ← e] at h1 ⊢
        exact h1
      obtain ⟨g, rfl, -, hgl⟩ := own_some hown (by simp; omega)
      have hgt : g ≠ T.t := ((unhide HAP).tv g rfl).1
      have HG : Hid (Holds wr g (ptrs (T.live.map (·.b)))) := hide ((own_holds hown).block ((unhide HR).fr.block g hgl (by simpa using hgt)))
      obtain ⟨r, hr⟩ : ∃ r, r = T.live[j] := ⟨_, rfl⟩
      have hrm : r ∈ T.live := hr ▸ List.getElem_mem hjr
      have HP : Hid ((ptrs (T.live.map (·.b)))[0 + j]? = some (.pointer (some ⟨r.b, 0, none⟩))) := hide (by rw [hr]; exact ptrs_get T.live j hjr)
      have hrt : r.b ≠ T.t := fun e => (unhide HAP).tr (e ▸ List.mem_map.2 ⟨r, hrm, rfl⟩)
      have hrl := ((unhide HT1).rows r hrm).lt (by simp [rcs_length])
      have HRr : Hid (Holds wr r.b r.cs) := hide (((unhide HT1).rows r hrm).block ((unhide HR).fr.block r.b hrl (by simpa using hrt)))
      have HOK := hide (good_ok ((unhide HT).good r hrm))
      have HFN := hide (fnd_take (unhide HT).keys hjr)
      rw [← hr] at HFN
      have HMr : Hid (T.t ≠ M ∧ r.b ≠ M) := hide ⟨by have h1 := unhide HM; have h2 := unhide htl; omega, by have h1 := unhide HM; omega⟩
      have hjM : Hid (j < maxLen) := hide (by unfold maxLen; omega)
      clear hr hrm hrt hrl hown hgt hgl
      go_wp2_with (first | go_skip | ((with_reducible show wpList _ _ _ _ _ _); first | ((refine rd (by rfl) (ex_index70 (off := 0) j rfl rfl rfl hjl) ?_); simp only [Act.put, nzA, nzB, nzC]) | ((refine rd (by rfl) (ex_load1 74 Tryz.isAgg74 rfl rfl (unhide HG) (unhide HP)) ?_); simp only [Act.put, nzA, nzB, nzC])))
      refine wp_region_held_drew (P := Tryz.prog) (S := fun X => Holds X T.t [.map (some M), .slice (some ⟨g, 0, none⟩) n c, .int .u64 T.last] ∧ Holds X r.b r.cs) (by kernel_rfl) ⟨(unhide HR).tab.block rfl, (unhide HRr).block rfl⟩ (fun hS0 => ?_)
      refine gsem 0 (some 24) (.pointer (some ⟨T.t, 0, none⟩)) rfl (by kernel_rfl) (by kernel_rfl) (by kernel_rfl) (fun _ _ _ h => h) (by kernel_rfl) (by kernel_rfl) (fun _ _ => by kernel_rfl) hS0 ?_
      simp only [Act.put, nzA, nzB, nzC]
      refine gsem 1 (some 25) (.pointer (some ⟨T.t, 0, none⟩)) rfl (by kernel_rfl) (by kernel_rfl) (by kernel_rfl) (fun _ _ _ h => h) (by kernel_rfl) (by kernel_rfl) (fun _ _ => by kernel_rfl) hS0 ?_
      simp only [Act.put, nzA, nzB, nzC]
      refine gsem 2 (some 26) (.pointer (some ⟨T.t, 0, none⟩)) rfl (by kernel_rfl) (by kernel_rfl) (by kernel_rfl) (fun _ _ _ h => h) (by kernel_rfl) (by kernel_rfl) (fun _ _ => by kernel_rfl) hS0 ?_
      simp only [Act.put, nzA, nzB, nzC]
      refine gsem 3 (some 27) (.map (some M)) rfl (by kernel_rfl) (by kernel_rfl) (by kernel_rfl) (fun _ _ _ h => h) (by kernel_rfl) (by kernel_rfl) (fun X hX => ex_load1 69 Tryz.isAgg69 rfl rfl (hX.1) rfl) hS0 ?_
      simp only [Act.put, nzA, nzB, nzC]
      refine gsem 4 (some 28) (.pointer (some ⟨r.b, 0, none⟩)) rfl (by kernel_rfl) (by kernel_rfl) (by kernel_rfl) (fun _ _ _ h => h) (by kernel_rfl) (by kernel_rfl) (fun _ _ => by kernel_rfl) hS0 ?_
      simp only [Act.put, nzA, nzB, nzC]
      refine gsem 5 (some 29) (.pointer (some ⟨r.b, 0, none⟩)) rfl (by kernel_rfl) (by kernel_rfl) (by kernel_rfl) (fun _ _ _ h => h) (by kernel_rfl) (by kernel_rfl) (fun _ _ => by kernel_rfl) hS0 ?_
      simp only [Act.put, nzA, nzB, nzC]
      refine gsem 6 (some 30) (.pointer (some ⟨r.b, 0, none⟩)) rfl (by kernel_rfl) (by kernel_rfl) (by kernel_rfl) (fun _ _ _ h => h) (by kernel_rfl) (by kernel_rfl) (fun _ _ => by kernel_rfl) hS0 ?_
      simp only [Act.put, nzA, nzB, nzC]
      refine gsem 7 (some 31) (.pointer (some ⟨r.b, 0, none⟩)) rfl (by kernel_rfl) (by kernel_rfl) (by kernel_rfl) (fun _ _ _ h => h) (by kernel_rfl) (by kernel_rfl) (fun _ _ => by kernel_rfl) hS0 ?_
      simp only [Act.put, nzA, nzB, nzC]
      refine gsem 8 (some 32) (r.k.agg) rfl (by kernel_rfl) (by kernel_rfl) (by kernel_rfl) (fun _ _ _ h => h) (by kernel_rfl) (by kernel_rfl) (fun X hX => ex_loadN (vs := r.k.cs) 33 2 row33x siz33 rfl rfl (hX.2) rfl rfl) hS0 ?_
      simp only [Act.put, nzA, nzB, nzC]
      refine gsem 9 (some 33) (.pointer (some ⟨r.b, 0, none⟩)) rfl (by kernel_rfl) (by kernel_rfl) (by kernel_rfl) (fun _ _ _ h => h) (by kernel_rfl) (by kernel_rfl) (fun _ _ => by kernel_rfl) hS0 ?_
      simp only [Act.put, nzA, nzB, nzC]
      refine wpAnyH_ready (rs := [10]) (by kernel_rfl) (by simp) (gupd (r := r.b) 10 rfl (by kernel_rfl) (by kernel_rfl) rfl rfl rfl rfl ((unhide HR).map.block rfl) (unhide HOK) (unhide hjM) (fun X hX => ⟨hS0.1.block (hX.block T.t (hS0.1.lt (by simp)) (by simpa using (unhide HMr).1)), hS0.2.block (hX.block r.b (hS0.2.lt (by simp [rcs_length])) (by simpa using (unhide HMr).2))⟩) ?_ AllReadyH.nil)
      intro X hM6 hX6
      have HR6 : Hid (CPk T w1 X (some ⟨g, 0, none⟩) n c M (j + 1)) := hide ⟨hS0.1.block (hX6.block T.t (hS0.1.lt (by simp)) (by simpa using (unhide HMr).1)), (by have h1 := hM6; rw [(unhide HFN).1, (unhide HFN).2] at h1; exact h1), ((unhide HR).fr.drew.trans hX6 (fun b hb => Or.inr (by have h1 := unhide HM; obtain rfl : b = M := (by simpa using hb); omega)))⟩
      replace hS0 := And.intro (hS0.1.block (hX6.block T.t (hS0.1.lt (by simp)) (by simpa using (unhide HMr).1))) (hS0.2.block (hX6.block r.b (hS0.2.lt (by simp [rcs_length])) (by simpa using (unhide HMr).2)))
      clear hM6 hX6
      simp only [Act.put, nzA, nzB, nzC]
      refine wpAnyH_done (by kernel_rfl) ?_ _
      try simp only [Act.put, nzA, nzB, nzC]
      clear hS0
      go_wp2
      go_roundg (n - (j + 1))
      case measure => omega
      case rel => exact ⟨j + 1, by go_num, by omega, Nat.le_refl _, HR6⟩
    · have hjz : ¬ (j : Int) < n := by omega
      have hjn : j = n := by omega
      subst hjn
      go_wp2
      go_end0
      have hC := unhide HR
      have hTT := unhide HT1
      have hap := unhide HAP
      have e := unhide Hn
      have htk : T.live.take j = T.live := by rw [e, List.take_length]
      have hmp := hC.map
      rw [htk] at hmp
      have hM := unhide HM
      have hs1 := (unhide HF1).size
      have hlt := (unhide HT).lt
      have hrv : ∀ b, (Value.slice A j c).ownBlock = some b → (T.rv.ownBlock = some b ∨ b ∉ T.blocks) ∧ b ≠ M := fun b hb => by
        refine ⟨((unhide HB1) b hb).imp id (fun h1 hm => by have := hlt b hm; omega), ?_⟩
        have := World.ownsRow.lt hTT.own b hb
        omega
      refine ⟨rfl, M, .slice A j c, TT.Is.pack (unhide HT) hC.tab ?_ ?_ (fun r hr => ?_) (.inr (fun hm => by have := hlt M hm; omega)) hrv, ?_, ?_, ?_⟩
      · have h1 := hmp.mono (unhide hnl)
        rw [← e]
        exact h1
      · exact hTT.own.block (fun b hb => hC.fr.block b (World.ownsRow.lt hTT.own b hb).2 (fun hm => (hap.tv b hb).1 (by show b = T.t; simpa using hm)))
      · have h2 := hTT.rows r hr
        exact h2.block (hC.fr.block r.b (h2.lt (by simp [rcs_length])) (by simpa using fun e : r.b = T.t => hap.tr (e ▸ List.mem_map.2 ⟨r, hr, rfl⟩)))
      · exact (unhide HF1).trans hC.fr (fun b hb => .inl hb)
      · intro b hb
        simp only [TT.blocks, TT.packed, List.mem_cons, List.mem_append] at hb ⊢
        rcases hb with h1 | h1 | h1 | h1
        · exact .inl (.inl h1)
        · exact .inr (by omega)
        · rcases (unhide HB1) b (by simpa using h1) with h2 | h2
          · exact .inl (.inr (.inr (.inl (by rw [h2]; simp))))
          · exact .inr h2
        · exact .inl (.inr (.inr (.inr (live_sub T b h1))))
      · refine TT.Nu.of_fr ((unhide HF1).trans hC.fr (fun b hb => .inl hb)) (fun b hb => .inl (by simpa using hb)) (fun b hb => ?_)
        simp only [TT.hot, TT.packed, List.mem_cons] at hb ⊢
        rcases hb with h1 | h1 | h1
        · exact .inl (.inl h1)
        · exact .inr (by omega)
        · rcases (unhide HB1) b (by simpa using h1) with h2 | h2
          · exact .inl (.inr (.inr (by rw [h2]; simp)))
          · exact .inr h2
