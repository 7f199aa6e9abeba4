import Derived.Test.YtpbdidnphkkenaaGreatDoorRo
set_option linter.all false
namespace Go.Proofs.YtpbdidnphkkenaaGreatDoor
set_option maxHeartbeats 1000000
section
open Go Go.Proofs Go.Maps Go.RowKit
theorem each_inM (n : Nat) (hn : 1 ≤ n) (l Bn n₀ : Nat) (T : TT) (J Jx : List (KK × DD) → World → Prop)
    (W : World) (hAb : AbidesFrom W.heap.size J) (hT : T.Is W) (hlast : T.last < 4000000) (hlt : ∀ b ∈ T.blocks, b < n₀)
    (hY : ∀ pre x W, J pre W → pre.length < T.live.length → x ∈ T.live.map RR.pr → YieldAt Fence.wide (n - 1) Tryz.prog l (encP x) W fun e W' =>
      (e = .returned (.bool true) ∧ J (pre ++ [x]) W' ∧ Kb n₀ Bn W W') ∨ (e = .returned (.bool false) ∧ Jx (pre ++ [x]) W'))
    (hBn : W.cell? ⟨Bn, 0, none⟩ = some (.pointer (some ⟨T.t, 0, none⟩))) (h0 : J [] W) (hn₀ : n₀ ≤ W.heap.size) :
    CallsIn Fence.wide n Tryz.prog 49 #[.func (.yield l) #[] #[], .pointer (some ⟨Bn, 0, none⟩)] W fun e W' => (∃ v, e = .returned v) ∧
      ((∃ ys, ys = T.live.map RR.pr ∧ J ys W') ∨ (∃ pre, pre <+: T.live.map RR.pr ∧ Jx pre W')) := by
  have HN := hide (next50 T 0 W hT (by omega) (by omega))
  refine callsIn_of_wp Tryz.func49 rfl trivial ?_ rfl
  simp only [Tryz.ntmps49, List.size_toArray, List.length_cons, List.length_nil, Nat.reduceAdd, Nat.reduceSub, Array.replicate_succ, Array.replicate_zero, List.push_toArray, List.append_toArray, List.nil_append, List.cons_append]
  gi_wp2_with fail
  refine ⟨trivial, (callsIn_wide.2 (unhide HN)).mono ?_⟩
  rintro e w1 ⟨rfl, rfl⟩
  gi_wp2
  gi_loopw [3] (fun s3 wr => ∃ (pre : List (KK × DD)) (m : Nat), s3 = pv ((T.next m).map (·.b)) ∧ Hid (T.live.map RR.pr = pre ++ (T.rows.filter (after m)).map RR.pr) ∧ Hid (J pre wr) ∧ Hid (T.Is wr) ∧ wr.cell? ⟨Bn, 0, none⟩ = some (.pointer (some ⟨T.t, 0, none⟩)) ∧ Hid (n₀ ≤ wr.heap.size ∧ w1.heap.size ≤ wr.heap.size ∧ m ≤ T.last)) (fun s3 _ => left T s3)
  case atStart =>
    exact ⟨[], 0, rfl, hide (by rw [from_zero hT]; rfl), hide h0, hide hT, hBn, hide ⟨hn₀, Nat.le_refl _, Nat.zero_le _⟩⟩
  case round =>
    obtain ⟨pre, m, rfl, HX, HJ, HT, hc, HZ⟩ := hrel
    have HY := hide hY
    have HAb := hide hAb
    clear hY hAb h0 hBn hT HN
    cases hnx : T.next m with
    | none =>
      rw [show pv ((none : Option RR).map (·.b)) = .pointer none from rfl]
      gi_wp2
      refine wpIn_region_any (by kernel_rfl) ?_
      refine ip 0 (some 6) (.pointer none) rfl (by kernel_rfl) (by kernel_rfl) (by kernel_rfl) (fun _ _ _ h => h) (by kernel_rfl) (by kernel_rfl) (fun _ => by kernel_rfl) (fun _ => by kernel_rfl) ?_
      simp only [Act.put, nzA, nzB, nzC]
      refine ip 1 (some 7) (.bool false) rfl (by kernel_rfl) (by kernel_rfl) (by kernel_rfl) (fun _ _ _ h => h) (by kernel_rfl) (by kernel_rfl) (fun _ => by kernel_rfl) (fun _ => by kernel_rfl) ?_
      simp only [Act.put, nzA, nzB, nzC]
      refine ip 2 (some 8) (.bool false) rfl (by kernel_rfl) (by kernel_rfl) (by kernel_rfl) (fun _ _ _ h => h) (by kernel_rfl) (by kernel_rfl) (fun _ => by kernel_rfl) (fun _ => by kernel_rfl) ?_
      simp only [Act.put, nzA, nzB, nzC]
      refine isk 3 (some 9) rfl (by kernel_rfl) (by kernel_rfl) (by kernel_rfl) (fun _ _ _ h => h) (by kernel_rfl) (by kernel_rfl) (fun _ => by kernel_rfl) ?_
      simp only [Act.put, nzA, nzB, nzC]
      refine isk 4 (some 10) rfl (by kernel_rfl) (by kernel_rfl) (by kernel_rfl) (fun _ _ _ h => h) (by kernel_rfl) (by kernel_rfl) (fun _ => by kernel_rfl) ?_
      simp only [Act.put, nzA, nzB, nzC]
      refine isk 5 (some 11) rfl (by kernel_rfl) (by kernel_rfl) (by kernel_rfl) (fun _ _ _ h => h) (by kernel_rfl) (by kernel_rfl) (fun _ => by kernel_rfl) ?_
      simp only [Act.put, nzA, nzB, nzC]
      refine isk 6 (some 12) rfl (by kernel_rfl) (by kernel_rfl) (by kernel_rfl) (fun _ _ _ h => h) (by kernel_rfl) (by kernel_rfl) (fun _ => by kernel_rfl) ?_
      simp only [Act.put, nzA, nzB, nzC]
      refine isk 7 (some 13) rfl (by kernel_rfl) (by kernel_rfl) (by kernel_rfl) (fun _ _ _ h => h) (by kernel_rfl) (by kernel_rfl) (fun _ => by kernel_rfl) ?_
      simp only [Act.put, nzA, nzB, nzC]
      refine isk 8 (some 14) rfl (by kernel_rfl) (by kernel_rfl) (by kernel_rfl) (fun _ _ _ h => h) (by kernel_rfl) (by kernel_rfl) (fun _ => by kernel_rfl) ?_
      simp only [Act.put, nzA, nzB, nzC]
      refine isk 9 (some 15) rfl (by kernel_rfl) (by kernel_rfl) (by kernel_rfl) (fun _ _ _ h => h) (by kernel_rfl) (by kernel_rfl) (fun _ => by kernel_rfl) ?_
      simp only [Act.put, nzA, nzB, nzC]
      refine isk 10 (some 16) rfl (by kernel_rfl) (by kernel_rfl) (by kernel_rfl) (fun _ _ _ h => h) (by kernel_rfl) (by kernel_rfl) (fun _ => by kernel_rfl) ?_
      simp only [Act.put, nzA, nzB, nzC]
      refine isk 11 (some 17) rfl (by kernel_rfl) (by kernel_rfl) (by kernel_rfl) (fun _ _ _ h => h) (by kernel_rfl) (by kernel_rfl) (fun _ => by kernel_rfl) ?_
      simp only [Act.put, nzA, nzB, nzC]
      refine isk 12 (some 18) rfl (by kernel_rfl) (by kernel_rfl) (by kernel_rfl) (fun _ _ _ h => h) (by kernel_rfl) (by kernel_rfl) (fun _ => by kernel_rfl) ?_
      simp only [Act.put, nzA, nzB, nzC]
      refine isk 13 (some 19) rfl (by kernel_rfl) (by kernel_rfl) (by kernel_rfl) (fun _ _ _ h => h) (by kernel_rfl) (by kernel_rfl) (fun _ => by kernel_rfl) ?_
      simp only [Act.put, nzA, nzB, nzC]
      refine isk 14 (some 20) rfl (by kernel_rfl) (by kernel_rfl) (by kernel_rfl) (fun _ _ _ h => h) (by kernel_rfl) (by kernel_rfl) (fun _ => by kernel_rfl) ?_
      simp only [Act.put, nzA, nzB, nzC]
      refine ip 15 (some 21) (.bool false) rfl (by kernel_rfl) (by kernel_rfl) (by kernel_rfl) (fun _ _ _ h => h) (by kernel_rfl) (by kernel_rfl) (fun _ => by kernel_rfl) (fun _ => by kernel_rfl) ?_
      simp only [Act.put, nzA, nzB, nzC]
      refine wpAnyIn_done (by kernel_rfl) ?_ _
      try simp only [Act.put, nzA, nzB, nzC]
      gi_wp2
      go_end0
      refine ⟨⟨_, rfl⟩, .inl ⟨pre, ?_, ?_⟩⟩
      · rw [unhide HX, from_nil m _ hnx]; simp
      · exact (unhide HAb) pre wr wr.drew none (unhide HJ) (grown_of_below ((Below.refl _ _).drew)) (fun r e => by cases e)
    | some r =>
      rw [show pv ((some r : Option RR).map (·.b)) = .pointer (some ⟨r.b, 0, none⟩) from rfl]
      obtain ⟨hrm, hrn, hrg⟩ := next_mem hnx
      have HR := hide ((unhide HT).rows r hrm)
      have hfc := from_cons m r T.rows (unhide HT).rise hnx
      have hlv : T.live.length = pre.length + ((T.rows.filter (after r.n)).length + 1) := by
        have := congrArg List.length (unhide HX)
        rw [hfc] at this
        simpa using this
      have hJ1 := (unhide HAb) pre wr wr.drew none (unhide HJ) (grown_of_below ((Below.refl _ _).drew)) (fun r e => by cases e)
      obtain ⟨fn, tmps, asg, bd, hy, hRd⟩ := (unhide HY) pre r.pr wr.drew hJ1 (by omega) (by rw [unhide HX, hfc]; simp)
      have HRd := hide hRd
      have Hy : Hid ((Instr.yield l #[r.k.agg, r.d.agg]).run Tryz.prog wr.drew = .ok (.round l fn tmps asg bd) wr.drew) := hide hy
      have Hfc := hide hfc
      have Hrn := hide (And.intro hrm (And.intro hrn hrg))
      clear hRd hy hJ1 hfc hlv hrm hrn hrg
      gi_wp2
      refine wpIn_region_any (by kernel_rfl) ?_
      refine ip 0 (some 6) (.pointer (some ⟨r.b, 0, none⟩)) rfl (by kernel_rfl) (by kernel_rfl) (by kernel_rfl) (fun _ _ _ h => h) (by kernel_rfl) (by kernel_rfl) (fun _ => by kernel_rfl) (fun _ => by kernel_rfl) ?_
      simp only [Act.put, nzA, nzB, nzC]
      refine ip 1 (some 7) (.bool true) rfl (by kernel_rfl) (by kernel_rfl) (by kernel_rfl) (fun _ _ _ h => h) (by kernel_rfl) (by kernel_rfl) (fun _ => by kernel_rfl) (fun _ => by kernel_rfl) ?_
      simp only [Act.put, nzA, nzB, nzC]
      refine ip 2 (some 8) (.bool true) rfl (by kernel_rfl) (by kernel_rfl) (by kernel_rfl) (fun _ _ _ h => h) (by kernel_rfl) (by kernel_rfl) (fun _ => by kernel_rfl) (fun _ => by kernel_rfl) ?_
      simp only [Act.put, nzA, nzB, nzC]
      refine ip 3 (some 9) (.func (.yield l) #[] #[]) rfl (by kernel_rfl) (by kernel_rfl) (by kernel_rfl) (fun _ _ _ h => h) (by kernel_rfl) (by kernel_rfl) (fun _ => by kernel_rfl) (fun _ => by kernel_rfl) ?_
      simp only [Act.put, nzA, nzB, nzC]
      refine ip 4 (some 10) (.pointer (some ⟨r.b, 0, none⟩)) rfl (by kernel_rfl) (by kernel_rfl) (by kernel_rfl) (fun _ _ _ h => h) (by kernel_rfl) (by kernel_rfl) (fun _ => by kernel_rfl) (fun _ => by kernel_rfl) ?_
      simp only [Act.put, nzA, nzB, nzC]
      refine ip 5 (some 11) (.pointer (some ⟨r.b, 0, none⟩)) rfl (by kernel_rfl) (by kernel_rfl) (by kernel_rfl) (fun _ _ _ h => h) (by kernel_rfl) (by kernel_rfl) (fun _ => by kernel_rfl) (fun _ => by kernel_rfl) ?_
      simp only [Act.put, nzA, nzB, nzC]
      refine ip 6 (some 12) (.pointer (some ⟨r.b, 0, none⟩)) rfl (by kernel_rfl) (by kernel_rfl) (by kernel_rfl) (fun _ _ _ h => h) (by kernel_rfl) (by kernel_rfl) (fun _ => by kernel_rfl) (fun _ => by kernel_rfl) ?_
      simp only [Act.put, nzA, nzB, nzC]
      refine ip 7 (some 13) (.pointer (some ⟨r.b, 0, none⟩)) rfl (by kernel_rfl) (by kernel_rfl) (by kernel_rfl) (fun _ _ _ h => h) (by kernel_rfl) (by kernel_rfl) (fun _ => by kernel_rfl) (fun _ => by kernel_rfl) ?_
      simp only [Act.put, nzA, nzB, nzC]
      refine ip 9 (some 15) (.pointer (some ⟨r.b, 0, none⟩)) rfl (by kernel_rfl) (by kernel_rfl) (by kernel_rfl) (fun _ _ _ h => h) (by kernel_rfl) (by kernel_rfl) (fun _ => by kernel_rfl) (fun _ => by kernel_rfl) ?_
      simp only [Act.put, nzA, nzB, nzC]
      refine ip 10 (some 16) (.pointer (some ⟨r.b, 0, none⟩)) rfl (by kernel_rfl) (by kernel_rfl) (by kernel_rfl) (fun _ _ _ h => h) (by kernel_rfl) (by kernel_rfl) (fun _ => by kernel_rfl) (fun _ => by kernel_rfl) ?_
      simp only [Act.put, nzA, nzB, nzC]
      refine ip 11 (some 17) (.pointer (some ⟨r.b, 0, none⟩)) rfl (by kernel_rfl) (by kernel_rfl) (by kernel_rfl) (fun _ _ _ h => h) (by kernel_rfl) (by kernel_rfl) (fun _ => by kernel_rfl) (fun _ => by kernel_rfl) ?_
      simp only [Act.put, nzA, nzB, nzC]
      refine ip 12 (some 18) (.pointer (some ⟨r.b, 2, none⟩)) rfl (by kernel_rfl) (by kernel_rfl) (by kernel_rfl) (fun _ _ _ h => h) (by kernel_rfl) (by kernel_rfl) (fun _ => by kernel_rfl) (fun _ => by kernel_rfl) ?_
      simp only [Act.put, nzA, nzB, nzC]
      refine wpAnyIn_ready (rs := [8, 13]) (by kernel_rfl) (by simp) (ival 8 (some 14) rfl (by kernel_rfl) (by kernel_rfl) (ex_loadN (vs := r.k.cs) 33 2 row33x siz33 rfl rfl ((Holds.block (unhide HR) rfl)) rfl rfl) ?_ (ival 13 (some 19) rfl (by kernel_rfl) (by kernel_rfl) (ex_loadN (vs := r.d.cs) 39 18 row39 siz39 rfl rfl ((Holds.block (unhide HR) rfl)) rfl rfl) ?_ AllReadyIn.nil))
      · simp only [Act.put, nzA, nzB, nzC]
        refine wpAnyIn_ready (rs := [13]) (by kernel_rfl) (by simp) (ival 13 (some 19) rfl (by kernel_rfl) (by kernel_rfl) (ex_loadN (vs := r.d.cs) 39 18 row39 siz39 rfl rfl ((Holds.block (unhide HR) rfl)) rfl rfl) ?_ AllReadyIn.nil)
        simp only [Act.put, nzA, nzB, nzC]
        refine wpAnyIn_ready (rs := [14]) (by kernel_rfl) (by simp) (iround 14 (some 20) rfl (by kernel_rfl) (by kernel_rfl) (Eq.trans (b := (Instr.yield l #[r.k.agg, r.d.agg]).run Tryz.prog wr.drew) (by kernel_rfl) (unhide Hy)) (unhide HRd) ?_ AllReadyIn.nil)
        rintro e W3 (⟨rfl, hJ3, hb3⟩ | ⟨rfl, hJx3⟩)
        · refine ⟨_, rfl, ?_⟩
          simp only [Act.put, nzA, nzB, nzC]
          refine ip 15 (some 21) (.bool true) rfl (by kernel_rfl) (by kernel_rfl) (by kernel_rfl) (fun _ _ _ h => h) (by kernel_rfl) (by kernel_rfl) (fun _ => by kernel_rfl) (fun _ => by kernel_rfl) ?_
          simp only [Act.put, nzA, nzB, nzC]
          refine wpAnyIn_done (by kernel_rfl) ?_ _
          try simp only [Act.put, nzA, nzB, nzC]
          have HT3 := hide ((unhide HT).block (fun b hb => hb3.1.block b (hlt b hb)))
          have hc3 : W3.cell? ⟨Bn, 0, none⟩ = some (.pointer (some ⟨T.t, 0, none⟩)) := (World.cell?_of_block (a := ⟨Bn, 0, none⟩) hb3.2).trans hc
          have HJ3 := hide hJ3
          have Hs3 := hide hb3.1.size
          clear hJ3 hb3
          gi_wp2
          refine wpIn_region_any (by kernel_rfl) ?_
          refine ip 1 (some 23) (.pointer (some ⟨r.b, 0, none⟩)) rfl (by kernel_rfl) (by kernel_rfl) (by kernel_rfl) (fun _ _ _ h => h) (by kernel_rfl) (by kernel_rfl) (fun _ => by kernel_rfl) (fun _ => by kernel_rfl) ?_
          simp only [Act.put, nzA, nzB, nzC]
          refine ip 2 (some 24) (.pointer (some ⟨r.b, 0, none⟩)) rfl (by kernel_rfl) (by kernel_rfl) (by kernel_rfl) (fun _ _ _ h => h) (by kernel_rfl) (by kernel_rfl) (fun _ => by kernel_rfl) (fun _ => by kernel_rfl) ?_
          simp only [Act.put, nzA, nzB, nzC]
          refine ip 3 (some 25) (.pointer (some ⟨r.b, 20, none⟩)) rfl (by kernel_rfl) (by kernel_rfl) (by kernel_rfl) (fun _ _ _ h => h) (by kernel_rfl) (by kernel_rfl) (fun _ => by kernel_rfl) (fun _ => by kernel_rfl) ?_
          simp only [Act.put, nzA, nzB, nzC]
          refine wpAnyIn_ready (rs := [0, 4]) (by kernel_rfl) (by simp) (ival 0 (some 22) rfl (by kernel_rfl) (by kernel_rfl) (ex_loadC (W := W3.drew) 26 Tryz.isAgg26 rfl rfl hc3) ?_ (ival 4 (some 26) rfl (by kernel_rfl) (by kernel_rfl) (ex_load1 71 Tryz.isAgg71 rfl rfl ((Holds.block ((unhide HT3).rows r (unhide Hrn).1) rfl : Holds W3.drew r.b r.cs)) rfl) ?_ AllReadyIn.nil))
          · simp only [Act.put, nzA, nzB, nzC]
            refine wpAnyIn_ready (rs := [4]) (by kernel_rfl) (by simp) (ival 4 (some 26) rfl (by kernel_rfl) (by kernel_rfl) (ex_load1 71 Tryz.isAgg71 rfl rfl ((Holds.block ((unhide HT3).rows r (unhide Hrn).1) rfl : Holds W3.drew r.b r.cs)) rfl) ?_ AllReadyIn.nil)
            simp only [Act.put, nzA, nzB, nzC]
            refine wpAnyIn_ready (rs := [5]) (by kernel_rfl) (by simp) (icall 5 (some 27) rfl (by kernel_rfl) (by kernel_rfl) (by kernel_rfl) (next50 T r.n W3.drew (unhide HT3).drew (by omega) (by have := ((unhide HT3).num r (unhide Hrn).1).2; omega)) ?_ AllReadyIn.nil)
            rintro e X ⟨rfl, rfl⟩
            refine ⟨_, rfl, ?_⟩
            simp only [Act.put, nzA, nzB, nzC]
            refine ip 6 (some 3) (pv ((T.next r.n).map (·.b))) rfl (by kernel_rfl) (by kernel_rfl) (by kernel_rfl) (fun _ _ _ h => h) (by kernel_rfl) (by kernel_rfl) (fun _ => by kernel_rfl) (fun _ => by kernel_rfl) ?_
            simp only [Act.put, nzA, nzB, nzC]
            refine wpAnyIn_done (by kernel_rfl) ?_ _
            try simp only [Act.put, nzA, nzB, nzC]
            gi_wp2
            go_roundw
            case rel =>
              refine ⟨pre ++ [r.pr], r.n, rfl, hide ?_, hide ?_, hide (unhide HT3).drew, hc3, hide ?_⟩
              · rw [unhide HX, unhide Hfc]; simp
              · exact (unhide HAb) _ W3 W3.drew none (unhide HJ3) (grown_of_below ((Below.refl _ _).drew)) (fun r e => by cases e)
              · have h1 := unhide HZ; have h2 : wr.heap.size ≤ W3.heap.size := unhide Hs3; have h3 := ((unhide HT3).num r (unhide Hrn).1).2; exact ⟨Nat.le_trans h1.1 h2, Nat.le_trans h1.2.1 h2, h3⟩
            case measure =>
              rw [left_next (unhide HT3), left_row (unhide HT3) (unhide Hrn).1]
              exact Nat.lt_succ_self _
          · simp only [Act.put, nzA, nzB, nzC]
            refine wpAnyIn_ready (rs := [0]) (by kernel_rfl) (by simp) (ival 0 (some 22) rfl (by kernel_rfl) (by kernel_rfl) (ex_loadC (W := W3.drew) 26 Tryz.isAgg26 rfl rfl hc3) ?_ AllReadyIn.nil)
            simp only [Act.put, nzA, nzB, nzC]
            refine wpAnyIn_ready (rs := [5]) (by kernel_rfl) (by simp) (icall 5 (some 27) rfl (by kernel_rfl) (by kernel_rfl) (by kernel_rfl) (next50 T r.n W3.drew (unhide HT3).drew (by omega) (by have := ((unhide HT3).num r (unhide Hrn).1).2; omega)) ?_ AllReadyIn.nil)
            rintro e X ⟨rfl, rfl⟩
            refine ⟨_, rfl, ?_⟩
            simp only [Act.put, nzA, nzB, nzC]
            refine ip 6 (some 3) (pv ((T.next r.n).map (·.b))) rfl (by kernel_rfl) (by kernel_rfl) (by kernel_rfl) (fun _ _ _ h => h) (by kernel_rfl) (by kernel_rfl) (fun _ => by kernel_rfl) (fun _ => by kernel_rfl) ?_
            simp only [Act.put, nzA, nzB, nzC]
            refine wpAnyIn_done (by kernel_rfl) ?_ _
            try simp only [Act.put, nzA, nzB, nzC]
            gi_wp2
            go_roundw
            case rel =>
              refine ⟨pre ++ [r.pr], r.n, rfl, hide ?_, hide ?_, hide (unhide HT3).drew, hc3, hide ?_⟩
              · rw [unhide HX, unhide Hfc]; simp
              · exact (unhide HAb) _ W3 W3.drew none (unhide HJ3) (grown_of_below ((Below.refl _ _).drew)) (fun r e => by cases e)
              · have h1 := unhide HZ; have h2 : wr.heap.size ≤ W3.heap.size := unhide Hs3; have h3 := ((unhide HT3).num r (unhide Hrn).1).2; exact ⟨Nat.le_trans h1.1 h2, Nat.le_trans h1.2.1 h2, h3⟩
            case measure =>
              rw [left_next (unhide HT3), left_row (unhide HT3) (unhide Hrn).1]
              exact Nat.lt_succ_self _
        · refine ⟨_, rfl, ?_⟩
          simp only [Act.put, nzA, nzB, nzC]
          refine ip 15 (some 21) (.bool false) rfl (by kernel_rfl) (by kernel_rfl) (by kernel_rfl) (fun _ _ _ h => h) (by kernel_rfl) (by kernel_rfl) (fun _ => by kernel_rfl) (fun _ => by kernel_rfl) ?_
          simp only [Act.put, nzA, nzB, nzC]
          refine wpAnyIn_done (by kernel_rfl) ?_ _
          try simp only [Act.put, nzA, nzB, nzC]
          have HJx := hide hJx3
          clear hJx3
          gi_wp2
          go_end0
          refine ⟨⟨_, rfl⟩, .inr ⟨pre ++ [r.pr], ?_, unhide HJx⟩⟩
          rw [unhide HX, unhide Hfc]
          exact ⟨(T.rows.filter (after r.n)).map RR.pr, by simp⟩
      · simp only [Act.put, nzA, nzB, nzC]
        refine wpAnyIn_ready (rs := [8]) (by kernel_rfl) (by simp) (ival 8 (some 14) rfl (by kernel_rfl) (by kernel_rfl) (ex_loadN (vs := r.k.cs) 33 2 row33x siz33 rfl rfl ((Holds.block (unhide HR) rfl)) rfl rfl) ?_ AllReadyIn.nil)
        simp only [Act.put, nzA, nzB, nzC]
        refine wpAnyIn_ready (rs := [14]) (by kernel_rfl) (by simp) (iround 14 (some 20) rfl (by kernel_rfl) (by kernel_rfl) (Eq.trans (b := (Instr.yield l #[r.k.agg, r.d.agg]).run Tryz.prog wr.drew) (by kernel_rfl) (unhide Hy)) (unhide HRd) ?_ AllReadyIn.nil)
        rintro e W3 (⟨rfl, hJ3, hb3⟩ | ⟨rfl, hJx3⟩)
        · refine ⟨_, rfl, ?_⟩
          simp only [Act.put, nzA, nzB, nzC]
          refine ip 15 (some 21) (.bool true) rfl (by kernel_rfl) (by kernel_rfl) (by kernel_rfl) (fun _ _ _ h => h) (by kernel_rfl) (by kernel_rfl) (fun _ => by kernel_rfl) (fun _ => by kernel_rfl) ?_
          simp only [Act.put, nzA, nzB, nzC]
          refine wpAnyIn_done (by kernel_rfl) ?_ _
          try simp only [Act.put, nzA, nzB, nzC]
          have HT3 := hide ((unhide HT).block (fun b hb => hb3.1.block b (hlt b hb)))
          have hc3 : W3.cell? ⟨Bn, 0, none⟩ = some (.pointer (some ⟨T.t, 0, none⟩)) := (World.cell?_of_block (a := ⟨Bn, 0, none⟩) hb3.2).trans hc
          have HJ3 := hide hJ3
          have Hs3 := hide hb3.1.size
          clear hJ3 hb3
          gi_wp2
          refine wpIn_region_any (by kernel_rfl) ?_
          refine ip 1 (some 23) (.pointer (some ⟨r.b, 0, none⟩)) rfl (by kernel_rfl) (by kernel_rfl) (by kernel_rfl) (fun _ _ _ h => h) (by kernel_rfl) (by kernel_rfl) (fun _ => by kernel_rfl) (fun _ => by kernel_rfl) ?_
          simp only [Act.put, nzA, nzB, nzC]
          refine ip 2 (some 24) (.pointer (some ⟨r.b, 0, none⟩)) rfl (by kernel_rfl) (by kernel_rfl) (by kernel_rfl) (fun _ _ _ h => h) (by kernel_rfl) (by kernel_rfl) (fun _ => by kernel_rfl) (fun _ => by kernel_rfl) ?_
          simp only [Act.put, nzA, nzB, nzC]
          refine ip 3 (some 25) (.pointer (some ⟨r.b, 20, none⟩)) rfl (by kernel_rfl) (by kernel_rfl) (by kernel_rfl) (fun _ _ _ h => h) (by kernel_rfl) (by kernel_rfl) (fun _ => by kernel_rfl) (fun _ => by kernel_rfl) ?_
          simp only [Act.put, nzA, nzB, nzC]
          refine wpAnyIn_ready (rs := [0, 4]) (by kernel_rfl) (by simp) (ival 0 (some 22) rfl (by kernel_rfl) (by kernel_rfl) (ex_loadC (W := W3.drew) 26 Tryz.isAgg26 rfl rfl hc3) ?_ (ival 4 (some 26) rfl (by kernel_rfl) (by kernel_rfl) (ex_load1 71 Tryz.isAgg71 rfl rfl ((Holds.block ((unhide HT3).rows r (unhide Hrn).1) rfl : Holds W3.drew r.b r.cs)) rfl) ?_ AllReadyIn.nil))
          · simp only [Act.put, nzA, nzB, nzC]
            refine wpAnyIn_ready (rs := [4]) (by kernel_rfl) (by simp) (ival 4 (some 26) rfl (by kernel_rfl) (by kernel_rfl) (ex_load1 71 Tryz.isAgg71 rfl rfl ((Holds.block ((unhide HT3).rows r (unhide Hrn).1) rfl : Holds W3.drew r.b r.cs)) rfl) ?_ AllReadyIn.nil)
            simp only [Act.put, nzA, nzB, nzC]
            refine wpAnyIn_ready (rs := [5]) (by kernel_rfl) (by simp) (icall 5 (some 27) rfl (by kernel_rfl) (by kernel_rfl) (by kernel_rfl) (next50 T r.n W3.drew (unhide HT3).drew (by omega) (by have := ((unhide HT3).num r (unhide Hrn).1).2; omega)) ?_ AllReadyIn.nil)
            rintro e X ⟨rfl, rfl⟩
            refine ⟨_, rfl, ?_⟩
            simp only [Act.put, nzA, nzB, nzC]
            refine ip 6 (some 3) (pv ((T.next r.n).map (·.b))) rfl (by kernel_rfl) (by kernel_rfl) (by kernel_rfl) (fun _ _ _ h => h) (by kernel_rfl) (by kernel_rfl) (fun _ => by kernel_rfl) (fun _ => by kernel_rfl) ?_
            simp only [Act.put, nzA, nzB, nzC]
            refine wpAnyIn_done (by kernel_rfl) ?_ _
            try simp only [Act.put, nzA, nzB, nzC]
            gi_wp2
            go_roundw
            case rel =>
              refine ⟨pre ++ [r.pr], r.n, rfl, hide ?_, hide ?_, hide (unhide HT3).drew, hc3, hide ?_⟩
              · rw [unhide HX, unhide Hfc]; simp
              · exact (unhide HAb) _ W3 W3.drew none (unhide HJ3) (grown_of_below ((Below.refl _ _).drew)) (fun r e => by cases e)
              · have h1 := unhide HZ; have h2 : wr.heap.size ≤ W3.heap.size := unhide Hs3; have h3 := ((unhide HT3).num r (unhide Hrn).1).2; exact ⟨Nat.le_trans h1.1 h2, Nat.le_trans h1.2.1 h2, h3⟩
            case measure =>
              rw [left_next (unhide HT3), left_row (unhide HT3) (unhide Hrn).1]
              exact Nat.lt_succ_self _
          · simp only [Act.put, nzA, nzB, nzC]
            refine wpAnyIn_ready (rs := [0]) (by kernel_rfl) (by simp) (ival 0 (some 22) rfl (by kernel_rfl) (by kernel_rfl) (ex_loadC (W := W3.drew) 26 Tryz.isAgg26 rfl rfl hc3) ?_ AllReadyIn.nil)
            simp only [Act.put, nzA, nzB, nzC]
            refine wpAnyIn_ready (rs := [5]) (by kernel_rfl) (by simp) (icall 5 (some 27) rfl (by kernel_rfl) (by kernel_rfl) (by kernel_rfl) (next50 T r.n W3.drew (unhide HT3).drew (by omega) (by have := ((unhide HT3).num r (unhide Hrn).1).2; omega)) ?_ AllReadyIn.nil)
            rintro e X ⟨rfl, rfl⟩
            refine ⟨_, rfl, ?_⟩
            simp only [Act.put, nzA, nzB, nzC]
            refine ip 6 (some 3) (pv ((T.next r.n).map (·.b))) rfl (by kernel_rfl) (by kernel_rfl) (by kernel_rfl) (fun _ _ _ h => h) (by kernel_rfl) (by kernel_rfl) (fun _ => by kernel_rfl) (fun _ => by kernel_rfl) ?_
            simp only [Act.put, nzA, nzB, nzC]
            refine wpAnyIn_done (by kernel_rfl) ?_ _
            try simp only [Act.put, nzA, nzB, nzC]
            gi_wp2
            go_roundw
            case rel =>
              refine ⟨pre ++ [r.pr], r.n, rfl, hide ?_, hide ?_, hide (unhide HT3).drew, hc3, hide ?_⟩
              · rw [unhide HX, unhide Hfc]; simp
              · exact (unhide HAb) _ W3 W3.drew none (unhide HJ3) (grown_of_below ((Below.refl _ _).drew)) (fun r e => by cases e)
              · have h1 := unhide HZ; have h2 : wr.heap.size ≤ W3.heap.size := unhide Hs3; have h3 := ((unhide HT3).num r (unhide Hrn).1).2; exact ⟨Nat.le_trans h1.1 h2, Nat.le_trans h1.2.1 h2, h3⟩
            case measure =>
              rw [left_next (unhide HT3), left_row (unhide HT3) (unhide Hrn).1]
              exact Nat.lt_succ_self _
        · refine ⟨_, rfl, ?_⟩
          simp only [Act.put, nzA, nzB, nzC]
          refine ip 15 (some 21) (.bool false) rfl (by kernel_rfl) (by kernel_rfl) (by kernel_rfl) (fun _ _ _ h => h) (by kernel_rfl) (by kernel_rfl) (fun _ => by kernel_rfl) (fun _ => by kernel_rfl) ?_
          simp only [Act.put, nzA, nzB, nzC]
          refine wpAnyIn_done (by kernel_rfl) ?_ _
          try simp only [Act.put, nzA, nzB, nzC]
          have HJx := hide hJx3
          clear hJx3
          gi_wp2
          go_end0
          refine ⟨⟨_, rfl⟩, .inr ⟨pre ++ [r.pr], ?_, unhide HJx⟩⟩
          rw [unhide HX, unhide Hfc]
          exact ⟨(T.rows.filter (after r.n)).map RR.pr, by simp⟩

/-- Pairs with a key that is one. -/
abbrev GP := { x : KK × DD // goodK x.1 = true }
theorem each_stopsM (T : TT) (n : Nat) (hn : 1 ≤ n) (Bn n₀ : Nat) (w : World) (hT : T.Is w) (hlast : T.last < 4000000) (hlt : ∀ b ∈ T.blocks, b < n₀) (hBs : Bn < w.heap.size) (hBn : w.cell? ⟨Bn, 0, none⟩ = some (.pointer (some ⟨T.t, 0, none⟩))) (hn₀ : n₀ ≤ w.heap.size) :
    SeqStopsK (α := GP) Fence.wide n Tryz.prog 49 #[.pointer (some ⟨Bn, 0, none⟩)] (fun x => encP x.1) (Kb n₀ Bn) (fun ys => ys.map (·.1) = T.live.map RR.pr) (fun pre => pre.map (·.1) <+: T.live.map RR.pr) T.live.length w := by
  intro l J Jx W hW hJ hJx hY h0
  have hTW := hT.on hW
  refine (each_inM n hn l Bn n₀ T (fun pre X => ∃ p : List GP, p.map (·.1) = pre ∧ J p X) (fun pre X => ∃ p : List GP, p.map (·.1) = pre ∧ Jx p X) W ?_ hTW hlast hlt ?_ ((hW.cell (p := ⟨Bn, 0, none⟩) hBs).trans hBn) ⟨[], rfl, h0⟩ (by have := hW.size; omega)).mono ?_
  · intro s X X' row hs hg hr
    obtain ⟨p, hp, hj⟩ := hs
    exact ⟨p, hp, hJ p X X' row hj hg hr⟩
  · rintro pre x X ⟨p, rfl, hj⟩ hlen hx
    have hgd : goodK x.1 = true := by
      obtain ⟨r, hr, rfl⟩ := List.mem_map.1 hx
      exact hT.good r hr
    obtain ⟨fn, tmps, asg, bd, hy, hR⟩ := hY p ⟨x, hgd⟩ X hj (by simpa using hlen)
    refine ⟨fn, tmps, asg, bd, hy, hR.mono ?_⟩
    intro e X' h
    rcases h with ⟨h1, h2, h3⟩ | ⟨h1, h2⟩
    · exact .inl ⟨h1, ⟨p ++ [⟨x, hgd⟩], by simp, h2⟩, h3⟩
    · exact .inr ⟨h1, ⟨p ++ [⟨x, hgd⟩], by simp, h2⟩⟩
  · intro e X' h
    obtain ⟨hv, h⟩ := h
    refine ⟨hv, ?_⟩
    rcases h with ⟨ys, h1, p, h2, h3⟩ | ⟨pre, h1, p, h2, h3⟩
    · exact .inl ⟨p, h2.trans h1, h3⟩
    · exact .inr ⟨p, by (show p.map (·.1) <+: T.live.map RR.pr); rw [h2]; exact h1, h3⟩
theorem Holds.obj {W : World} {B : Nat} {cs : List Value} (h : Holds W B cs) (h0 : 0 < cs.length) : ∃ cur e fz, W.heap[B]? = some (.cells cur e fz) := by
  have hc := h.cell 0 (List.getElem?_eq_getElem h0)
  cases hb : W.heap[B]? with
  | none => simp [World.cell?, hb] at hc
  | some o => cases o <;> simp [World.cell?, hb] at hc <;> exact ⟨_, _, _, rfl⟩
theorem own_obj {w : World} {base e s n g : Nat} {v : Value} {xs : List Value} (h : w.ownsRow base e s v n xs) (hg : v.ownBlock = some g) : ∃ cur e fz, w.heap[g]? = some (.cells cur e fz) := by
  rcases h.2 with ⟨rfl, -⟩ | ⟨g', cap, cur, rfl, -, h3, -⟩
  · cases hg
  · have e : g' = g := by simpa [Value.ownBlock] using hg
    subst e
    exact ⟨_, _, _, h3⟩
/-- Blocks that a loop's own marks never are. -/
def Plainly (W : World) (B0 b : Nat) : Prop := b < B0 ∨ ∃ cur e fz, W.heap[b]? = some (.cells cur e fz)
theorem Plainly.same {W W' : World} {B0 b : Nat} {row : Option Nat} (h : Plainly W B0 b) (hb : b < W.heap.size) (hg : W.grownBy W' row) (hr : ∀ r, row = some r → B0 ≤ r ∧ ∃ o : Obj, W.heap[r]? = some o ∧ o.isCells = false) : W'.heap[b]? = W.heap[b]? := by
  refine hg.block b hb (fun e => ?_)
  obtain ⟨h1, o, h2, h3⟩ := hr b e.symm
  rcases h with h | ⟨cur, e, fz, h⟩
  · omega
  · rw [h] at h2
    cases h2
    cases h3
theorem TT.Is.plainly {C : TT} {W : World} {B0 : Nat} (h : C.Is W) (hm : C.m < B0) : ∀ b ∈ C.blocks, Plainly W B0 b := by
  intro b hb
  simp only [TT.blocks, List.mem_cons, List.mem_append, List.mem_map] at hb
  rcases hb with rfl | rfl | hb | ⟨r, hr, rfl⟩
  · exact .inr (h.tab.obj (by simp [TT.cs]))
  · exact .inl hm
  · exact .inr (own_obj h.own (by simpa using hb))
  · exact .inr ((h.rows r hr).obj (by simp [rcs_length]))
theorem Loose.plainly {W : World} {t m : Nat} {rv : Value} {n B0 : Nat} {ps : List Nat} (h : Loose W t m rv n ps) (hm : m < B0) : ∀ b ∈ lb t m rv, Plainly W B0 b := by
  intro b hb
  simp only [lb, List.mem_cons] at hb
  rcases hb with rfl | rfl | hb
  · exact .inr (h.tab.obj (by simp))
  · exact .inl hm
  · exact .inr (own_obj h.own (by simpa using hb))
theorem keeps_fr {W W' : World} {B0 : Nat} {E : List Nat} (hf : Fr W W' E) (hE : ∀ b ∈ E, Plainly W B0 b) : KeepsFrom B0 W W' := by
  refine ⟨hf.size, fun k o hB hk ho => ?_⟩
  have hlt := (Array.getElem?_eq_some_iff.1 hk).1
  rw [hf.block k hlt (fun hm => ?_)]
  · exact hk
  · rcases hE k hm with h | ⟨cur, e, fz, h⟩
    · omega
    · rw [h] at hk
      cases hk
      cases ho
theorem TT.Is.loose {C : TT} {W : World} (h : C.Is W) : Loose W C.t C.m C.rv C.last (C.rows.map (·.b)) := by
  have ap := TT.apart h.nd
  have := h.len
  exact ⟨h.tab, ⟨_, _, h.map⟩, h.own, by simpa using this, ap.tm, fun g hg => ⟨(ap.tv g hg).1, (ap.tv g hg).2.1⟩⟩
def Dst (pre : List GP) : Prop := (pre.map (fun x => x.1.1)).Pairwise (fun a b => a ≠ b)
theorem dst_snoc (pre : List GP) (x : GP) : Dst (pre ++ [x]) ↔ Dst pre ∧ ∀ y ∈ pre, y.1.1 ≠ x.1.1 := by
  unfold Dst
  rw [List.map_append, List.pairwise_append]
  simp
/-- Where a clone may lie. -/
def Okb (n₀ Bn B3 : Nat) (l : List Nat) : Prop := ∀ b ∈ l, n₀ ≤ b ∧ b ≠ Bn ∧ b ≠ B3
/-- A clone in the midst of being made. -/
def CI (ct cm n₀ Bn B3 : Nat) (pre : List GP) (W : World) : Prop :=
  (Dst pre ∧ ∃ C : TT, C.Is W ∧ C.t = ct ∧ C.m = cm ∧ C.live.map RR.pr = pre.map (·.1) ∧ C.last = pre.length ∧ Okb n₀ Bn B3 C.blocks) ∨ (¬ Dst pre ∧ ∃ rv ps, Loose W ct cm rv pre.length ps ∧ Okb n₀ Bn B3 (lb ct cm rv))
theorem CI.own {ct cm n₀ Bn B3 B0 : Nat} (hm : cm < B0) : OwnFrom B0 (CI ct cm n₀ Bn B3) := by
  intro pre W W' row hs hg hr
  rcases hs with ⟨h1, C, h2, h3, h4, h5, h6, h7⟩ | ⟨h1, rv, ps, h2, h3⟩
  · exact .inl ⟨h1, C, h2.block (fun b hb => (h2.plainly (h4 ▸ hm) b hb).same (h2.lt b hb) hg hr), h3, h4, h5, h6, h7⟩
  · exact .inr ⟨h1, rv, ps, h2.block (fun b hb => (h2.plainly hm b hb).same (h2.lt b hb) hg hr), h3⟩
theorem CI.on {ct cm n₀ Bn B3 : Nat} {pre : List GP} {W W' : World} (h : CI ct cm n₀ Bn B3 pre W) (hb : Below W.heap.size W W') : CI ct cm n₀ Bn B3 pre W' := by
  rcases h with ⟨h1, C, h2, h3⟩ | ⟨h1, rv, ps, h2, h3⟩
  · exact .inl ⟨h1, C, h2.on hb, h3⟩
  · exact .inr ⟨h1, rv, ps, h2.block (fun b hb' => hb.block b (h2.lt b hb')), h3⟩
/-- One more. -/
theorem clone_add {ct cm n₀ Bn B3 B0 : Nat} {pre : List GP} {W : World} (x : GP) (h : CI ct cm n₀ Bn B3 pre W) (hm : cm < B0) (hn : pre.length < 3000000) (hs : n₀ ≤ W.heap.size) (hB : Bn < W.heap.size ∧ B3 < W.heap.size) : Calls Tryz.prog 34 #[.pointer (some ⟨ct, 0, none⟩), .agg (x.1.1.cs ++ x.1.2.cs).toArray] W fun e W' => e = .returned (.tuple #[]) ∧ CI ct cm n₀ Bn B3 (pre ++ [x]) W' ∧ ∃ E, Fr W W' E ∧ (∀ b ∈ E, Plainly W B0 b) ∧ Okb n₀ Bn B3 E := by
  have hok := good_ok x.2
  by_cases hd : Dst (pre ++ [x])
  · obtain ⟨hd1, hd2⟩ := (dst_snoc pre x).1 hd
    rcases h with ⟨-, C, h2, h3, h4, h5, h6, h7⟩ | ⟨h1, -⟩
    · have hf : C.find x.1.1 = none := by
        unfold TT.find
        rw [List.find?_eq_none]
        intro r hr
        have h8 : r.pr ∈ pre.map (·.1) := by rw [← h5]; exact List.mem_map.2 ⟨r, hr, rfl⟩
        obtain ⟨y, hy, e⟩ := List.mem_map.1 h8
        have := hd2 y hy
        rw [e] at this
        simpa [RR.pr] using this
      rw [← h3]
      refine (add34 C x.1.1 x.1.2 W h2 hok x.2 hf (by omega)).mono ?_
      rintro e W' ⟨rfl, rv, R, h8, h9, h10, h11⟩
      refine ⟨rfl, .inl ⟨hd, _, h8, rfl, h4, ?_, ?_, ?_⟩, C.blocks, h9, h2.plainly (h4 ▸ hm), h7⟩
      · rw [TT.added_live, List.map_append, h5, List.map_append]
        rfl
      · show C.last + 1 = _
        rw [h6, List.length_append]
        rfl
      · intro b hb
        simp only [TT.blocks, TT.added, List.mem_cons, List.mem_append, List.map_append, List.map_cons, List.map_nil, List.mem_singleton] at hb
        have hC : ∀ b, b ∈ C.blocks → n₀ ≤ b ∧ b ≠ Bn ∧ b ≠ B3 := h7
        have hnew : ∀ b, W.heap.size ≤ b → n₀ ≤ b ∧ b ≠ Bn ∧ b ≠ B3 := fun b hb => ⟨by omega, by omega, by omega⟩
        rcases hb with rfl | rfl | hb | hb | hb
        · exact hC _ (by simp [TT.blocks])
        · exact hC _ (by simp [TT.blocks])
        · rcases h11 b (by simpa using hb) with h12 | h12
          · exact hC b (by unfold TT.blocks; rw [h12]; simp)
          · exact hnew b h12
        · exact hC b (by unfold TT.blocks; simp only [List.mem_cons, List.mem_append]; exact .inr (.inr (.inr hb)))
        · simp at hb
          exact hnew b (by omega)
    · exact absurd hd1 h1
  · have hL : ∃ rv ps, Loose W ct cm rv pre.length ps ∧ Okb n₀ Bn B3 (lb ct cm rv) := by
      rcases h with ⟨-, C, h2, h3, h4, h5, h6, h7⟩ | ⟨-, h⟩
      · have := h2.loose
        rw [h3, h4, h6] at this
        refine ⟨_, _, this, fun b hb => h7 b ?_⟩
        simp only [lb, TT.blocks, List.mem_cons, List.mem_append, ← h3, ← h4] at hb ⊢
        rcases hb with h | h | h
        · exact .inl h
        · exact .inr (.inl h)
        · exact .inr (.inr (.inl h))
      · exact h
    obtain ⟨rv, ps, hl, ho⟩ := hL
    refine (add34w ct cm rv pre.length ps x.1.1 x.1.2 W hl hok (by omega)).mono ?_
    rintro e W' ⟨rfl, rv', R, h8, h9, h10⟩
    refine ⟨rfl, .inr ⟨hd, rv', _, by rw [List.length_append]; exact h8, ?_⟩, lb ct cm rv, h9, hl.plainly hm, ho⟩
    intro b hb
    simp only [lb, List.mem_cons] at hb
    rcases hb with rfl | rfl | hb
    · exact ho _ (by simp [lb])
    · exact ho _ (by simp [lb])
    · rcases h10 b (by simpa using hb) with h12 | h12
      · exact ho b (by simp [lb, h12])
      · exact ⟨by omega, by omega, by omega⟩
