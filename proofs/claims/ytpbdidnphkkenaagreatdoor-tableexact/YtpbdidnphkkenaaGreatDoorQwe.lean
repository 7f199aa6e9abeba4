import Derived.Test.YtpbdidnphkkenaaGreatDoorQwc
import Derived.Test.YtpbdidnphkkenaaGreatDoorQwd
import Derived.Test.YtpbdidnphkkenaaGreatDoorQwb
import Derived.Test.YtpbdidnphkkenaaGreatDoorQwa

/-! Pe -/
namespace Go.Proofs.YtpbdidnphkkenaaGreatDoor
open Go Go.Proofs Go.Maps Go.RowKit
set_option linter.unusedSimpArgs false
set_option linter.unusedVariables false
set_option maxHeartbeats 1000000
theorem each_inM (n : Nat) (hn : 1 ≤ n) (l Bn n₀ : Nat) (T : TT) (J Jx : List (KK × DD) → World → Prop)
    (W : World) (hAb : AbidesFrom W.heap.size J) (hT : T.Is W) (hlast : T.last < 1000000) (hlt : ∀ b ∈ T.blocks, b < n₀)
    (hY : ∀ pre x W, J pre W → pre.length < T.live.length → x ∈ T.live.map RR.pr → YieldAt Fence.wide (n - 1) Tryz.prog l (encP x) W fun e W' =>
      (e = .returned (.bool true) ∧ J (pre ++ [x]) W' ∧ Kb n₀ Bn W W') ∨ (e = .returned (.bool false) ∧ Jx (pre ++ [x]) W'))
    (hBn : W.cell? ⟨Bn, 0, none⟩ = some (.pointer (some ⟨T.t, 0, none⟩))) (h0 : J [] W) (hn₀ : n₀ ≤ W.heap.size) :
    CallsIn Fence.wide n Tryz.prog 49 #[.func (.yield l) #[] #[], .pointer (some ⟨Bn, 0, none⟩)] W fun e W' => (∃ v, e = .returned v) ∧
      ((∃ ys, ys = T.live.map RR.pr ∧ J ys W') ∨ (∃ pre, pre <+: T.live.map RR.pr ∧ Jx pre W')) := by
  have HN := hide (next50 T 0 W hT (by omega) (by omega))
  refine callsIn_of_wp Tryz.func49 rfl trivial ?_ rfl
  simp only [Tryz.ntmps49, List.size_toArray, List.length_cons, List.length_nil, Nat.reduceAdd, Nat.reduceSub, Array.replicate_succ, Array.replicate_zero, List.push_toArray, List.append_toArray, List.nil_append, List.cons_append]
  gi_wp2_with fail
  refine ⟨trivial, (callsIn_wide.2 (unhide HN)).mono ?_⟩
  rintro e w1 ⟨rfl, rfl⟩
  gi_wp2
  gi_loopw [3] (fun s3 wr => ∃ (pre : List (KK × DD)) (m : Nat), s3 = pv ((T.next m).map (·.b)) ∧ Hid (T.live.map RR.pr = pre ++ (T.rows.filter (after m)).map RR.pr) ∧ Hid (J pre wr) ∧ Hid (T.Is wr) ∧ wr.cell? ⟨Bn, 0, none⟩ = some (.pointer (some ⟨T.t, 0, none⟩)) ∧ Hid (n₀ ≤ wr.heap.size ∧ w1.heap.size ≤ wr.heap.size ∧ m ≤ T.last)) (fun s3 _ => left T s3)
  case atStart =>
    exact ⟨[], 0, rfl, hide (by rw [from_zero hT]; rfl), hide h0, hide hT, hBn, hide ⟨hn₀, Nat.le_refl _, Nat.zero_le _⟩⟩
  case round =>
    obtain ⟨pre, m, rfl, HX, HJ, HT, hc, HZ⟩ := hrel
    have HY := hide hY
    have HAb := hide hAb
    clear hY hAb h0 hBn hT HN
    cases hnx : T.next m with
    | none =>
      rw [show pv ((none : Option RR).map (·.b)) = .pointer none from rfl]
      gi_wp2
      refine wpIn_region_any (by kernel_rfl) ?_
      refine ip 0 (some 6) (.pointer none) rfl (by kernel_rfl) (by kernel_rfl) (by kernel_rfl) (fun _ _ _ h => h) (by kernel_rfl) (by kernel_rfl) (fun _ => by kernel_rfl) (fun _ => by kernel_rfl) ?_
      simp only [Act.put, List.setIfInBounds_toArray, List.set_cons_succ, List.set_cons_zero]
      refine ip 1 (some 7) (.bool false) rfl (by kernel_rfl) (by kernel_rfl) (by kernel_rfl) (fun _ _ _ h => h) (by kernel_rfl) (by kernel_rfl) (fun _ => by kernel_rfl) (fun _ => by kernel_rfl) ?_
      simp only [Act.put, List.setIfInBounds_toArray, List.set_cons_succ, List.set_cons_zero]
      refine ip 2 (some 8) (.bool false) rfl (by kernel_rfl) (by kernel_rfl) (by kernel_rfl) (fun _ _ _ h => h) (by kernel_rfl) (by kernel_rfl) (fun _ => by kernel_rfl) (fun _ => by kernel_rfl) ?_
      simp only [Act.put, List.setIfInBounds_toArray, List.set_cons_succ, List.set_cons_zero]
      refine isk 3 (some 9) rfl (by kernel_rfl) (by kernel_rfl) (by kernel_rfl) (fun _ _ _ h => h) (by kernel_rfl) (by kernel_rfl) (fun _ => by kernel_rfl) ?_
      simp only [Act.put, List.setIfInBounds_toArray, List.set_cons_succ, List.set_cons_zero]
      refine isk 4 (some 10) rfl (by kernel_rfl) (by kernel_rfl) (by kernel_rfl) (fun _ _ _ h => h) (by kernel_rfl) (by kernel_rfl) (fun _ => by kernel_rfl) ?_
      simp only [Act.put, List.setIfInBounds_toArray, List.set_cons_succ, List.set_cons_zero]
      refine isk 5 (some 11) rfl (by kernel_rfl) (by kernel_rfl) (by kernel_rfl) (fun _ _ _ h => h) (by kernel_rfl) (by kernel_rfl) (fun _ => by kernel_rfl) ?_
      simp only [Act.put, List.setIfInBounds_toArray, List.set_cons_succ, List.set_cons_zero]
      refine isk 6 (some 12) rfl (by kernel_rfl) (by kernel_rfl) (by kernel_rfl) (fun _ _ _ h => h) (by kernel_rfl) (by kernel_rfl) (fun _ => by kernel_rfl) ?_
      simp only [Act.put, List.setIfInBounds_toArray, List.set_cons_succ, List.set_cons_zero]
      refine isk 7 (some 13) rfl (by kernel_rfl) (by kernel_rfl) (by kernel_rfl) (fun _ _ _ h => h) (by kernel_rfl) (by kernel_rfl) (fun _ => by kernel_rfl) ?_
      simp only [Act.put, List.setIfInBounds_toArray, List.set_cons_succ, List.set_cons_zero]
      refine isk 8 (some 14) rfl (by kernel_rfl) (by kernel_rfl) (by kernel_rfl) (fun _ _ _ h => h) (by kernel_rfl) (by kernel_rfl) (fun _ => by kernel_rfl) ?_
      simp only [Act.put, List.setIfInBounds_toArray, List.set_cons_succ, List.set_cons_zero]
      refine isk 9 (some 15) rfl (by kernel_rfl) (by kernel_rfl) (by kernel_rfl) (fun _ _ _ h => h) (by kernel_rfl) (by kernel_rfl) (fun _ => by kernel_rfl) ?_
      simp only [Act.put, List.setIfInBounds_toArray, List.set_cons_succ, List.set_cons_zero]
      refine isk 10 (some 16) rfl (by kernel_rfl) (by kernel_rfl) (by kernel_rfl) (fun _ _ _ h => h) (by kernel_rfl) (by kernel_rfl) (fun _ => by kernel_rfl) ?_
      simp only [Act.put, List.setIfInBounds_toArray, List.set_cons_succ, List.set_cons_zero]
      refine isk 11 (some 17) rfl (by kernel_rfl) (by kernel_rfl) (by kernel_rfl) (fun _ _ _ h => h) (by kernel_rfl) (by kernel_rfl) (fun _ => by kernel_rfl) ?_
      simp only [Act.put, List.setIfInBounds_toArray, List.set_cons_succ, List.set_cons_zero]
      refine isk 12 (some 18) rfl (by kernel_rfl) (by kernel_rfl) (by kernel_rfl) (fun _ _ _ h => h) (by kernel_rfl) (by kernel_rfl) (fun _ => by kernel_rfl) ?_
      simp only [Act.put, List.setIfInBounds_toArray, List.set_cons_succ, List.set_cons_zero]
      refine isk 13 (some 19) rfl (by kernel_rfl) (by kernel_rfl) (by kernel_rfl) (fun _ _ _ h => h) (by kernel_rfl) (by kernel_rfl) (fun _ => by kernel_rfl) ?_
      simp only [Act.put, List.setIfInBounds_toArray, List.set_cons_succ, List.set_cons_zero]
      refine isk 14 (some 20) rfl (by kernel_rfl) (by kernel_rfl) (by kernel_rfl) (fun _ _ _ h => h) (by kernel_rfl) (by kernel_rfl) (fun _ => by kernel_rfl) ?_
      simp only [Act.put, List.setIfInBounds_toArray, List.set_cons_succ, List.set_cons_zero]
      refine ip 15 (some 21) (.bool false) rfl (by kernel_rfl) (by kernel_rfl) (by kernel_rfl) (fun _ _ _ h => h) (by kernel_rfl) (by kernel_rfl) (fun _ => by kernel_rfl) (fun _ => by kernel_rfl) ?_
      simp only [Act.put, List.setIfInBounds_toArray, List.set_cons_succ, List.set_cons_zero]
      refine wpAnyIn_done (by kernel_rfl) ?_ _
      try simp only [Act.put, List.setIfInBounds_toArray, List.set_cons_succ, List.set_cons_zero]
      gi_wp2
      go_end0
      refine ⟨⟨_, rfl⟩, .inl ⟨pre, ?_, ?_⟩⟩
      · rw [unhide HX, from_nil m _ hnx]; simp
      · exact (unhide HAb) pre wr wr.drew none (unhide HJ) (grown_of_below ((Below.refl _ _).drew)) (fun r e => by cases e)
    | some r =>
      rw [show pv ((some r : Option RR).map (·.b)) = .pointer (some ⟨r.b, 0, none⟩) from rfl]
      obtain ⟨hrm, hrn, hrg⟩ := next_mem hnx
      have HR := hide ((unhide HT).rows r hrm)
      have hfc := from_cons m r T.rows (unhide HT).rise hnx
      have hlv : T.live.length = pre.length + ((T.rows.filter (after r.n)).length + 1) := by
        have := congrArg List.length (unhide HX)
        rw [hfc] at this
        simpa using this
      have hJ1 := (unhide HAb) pre wr wr.drew none (unhide HJ) (grown_of_below ((Below.refl _ _).drew)) (fun r e => by cases e)
      obtain ⟨fn, tmps, asg, bd, hy, hRd⟩ := (unhide HY) pre r.pr wr.drew hJ1 (by omega) (by rw [unhide HX, hfc]; simp)
      have HRd := hide hRd
      have Hy : Hid ((Instr.yield l #[r.k.agg, r.d.agg]).run Tryz.prog wr.drew = .ok (.round l fn tmps asg bd) wr.drew) := hide hy
      have Hfc := hide hfc
      have Hrn := hide (And.intro hrm (And.intro hrn hrg))
      clear hRd hy hJ1 hfc hlv hrm hrn hrg
      gi_wp2
      refine wpIn_region_any (by kernel_rfl) ?_
      refine ip 0 (some 6) (.pointer (some ⟨r.b, 0, none⟩)) rfl (by kernel_rfl) (by kernel_rfl) (by kernel_rfl) (fun _ _ _ h => h) (by kernel_rfl) (by kernel_rfl) (fun _ => by kernel_rfl) (fun _ => by kernel_rfl) ?_
      simp only [Act.put, List.setIfInBounds_toArray, List.set_cons_succ, List.set_cons_zero]
      refine ip 1 (some 7) (.bool true) rfl (by kernel_rfl) (by kernel_rfl) (by kernel_rfl) (fun _ _ _ h => h) (by kernel_rfl) (by kernel_rfl) (fun _ => by kernel_rfl) (fun _ => by kernel_rfl) ?_
      simp only [Act.put, List.setIfInBounds_toArray, List.set_cons_succ, List.set_cons_zero]
      refine ip 2 (some 8) (.bool true) rfl (by kernel_rfl) (by kernel_rfl) (by kernel_rfl) (fun _ _ _ h => h) (by kernel_rfl) (by kernel_rfl) (fun _ => by kernel_rfl) (fun _ => by kernel_rfl) ?_
      simp only [Act.put, List.setIfInBounds_toArray, List.set_cons_succ, List.set_cons_zero]
      refine ip 3 (some 9) (.func (.yield l) #[] #[]) rfl (by kernel_rfl) (by kernel_rfl) (by kernel_rfl) (fun _ _ _ h => h) (by kernel_rfl) (by kernel_rfl) (fun _ => by kernel_rfl) (fun _ => by kernel_rfl) ?_
      simp only [Act.put, List.setIfInBounds_toArray, List.set_cons_succ, List.set_cons_zero]
      refine ip 4 (some 10) (.pointer (some ⟨r.b, 0, none⟩)) rfl (by kernel_rfl) (by kernel_rfl) (by kernel_rfl) (fun _ _ _ h => h) (by kernel_rfl) (by kernel_rfl) (fun _ => by kernel_rfl) (fun _ => by kernel_rfl) ?_
      simp only [Act.put, List.setIfInBounds_toArray, List.set_cons_succ, List.set_cons_zero]
      refine ip 5 (some 11) (.pointer (some ⟨r.b, 0, none⟩)) rfl (by kernel_rfl) (by kernel_rfl) (by kernel_rfl) (fun _ _ _ h => h) (by kernel_rfl) (by kernel_rfl) (fun _ => by kernel_rfl) (fun _ => by kernel_rfl) ?_
      simp only [Act.put, List.setIfInBounds_toArray, List.set_cons_succ, List.set_cons_zero]
      refine ip 6 (some 12) (.pointer (some ⟨r.b, 0, none⟩)) rfl (by kernel_rfl) (by kernel_rfl) (by kernel_rfl) (fun _ _ _ h => h) (by kernel_rfl) (by kernel_rfl) (fun _ => by kernel_rfl) (fun _ => by kernel_rfl) ?_
      simp only [Act.put, List.setIfInBounds_toArray, List.set_cons_succ, List.set_cons_zero]
      refine ip 7 (some 13) (.pointer (some ⟨r.b, 0, none⟩)) rfl (by kernel_rfl) (by kernel_rfl) (by kernel_rfl) (fun _ _ _ h => h) (by kernel_rfl) (by kernel_rfl) (fun _ => by kernel_rfl) (fun _ => by kernel_rfl) ?_
      simp only [Act.put, List.setIfInBounds_toArray, List.set_cons_succ, List.set_cons_zero]
      refine ip 9 (some 15) (.pointer (some ⟨r.b, 0, none⟩)) rfl (by kernel_rfl) (by kernel_rfl) (by kernel_rfl) (fun _ _ _ h => h) (by kernel_rfl) (by kernel_rfl) (fun _ => by kernel_rfl) (fun _ => by kernel_rfl) ?_
      simp only [Act.put, List.setIfInBounds_toArray, List.set_cons_succ, List.set_cons_zero]
      refine ip 10 (some 16) (.pointer (some ⟨r.b, 0, none⟩)) rfl (by kernel_rfl) (by kernel_rfl) (by kernel_rfl) (fun _ _ _ h => h) (by kernel_rfl) (by kernel_rfl) (fun _ => by kernel_rfl) (fun _ => by kernel_rfl) ?_
      simp only [Act.put, List.setIfInBounds_toArray, List.set_cons_succ, List.set_cons_zero]
      refine ip 11 (some 17) (.pointer (some ⟨r.b, 0, none⟩)) rfl (by kernel_rfl) (by kernel_rfl) (by kernel_rfl) (fun _ _ _ h => h) (by kernel_rfl) (by kernel_rfl) (fun _ => by kernel_rfl) (fun _ => by kernel_rfl) ?_
      simp only [Act.put, List.setIfInBounds_toArray, List.set_cons_succ, List.set_cons_zero]
      refine ip 12 (some 18) (.pointer (some ⟨r.b, 2, none⟩)) rfl (by kernel_rfl) (by kernel_rfl) (by kernel_rfl) (fun _ _ _ h => h) (by kernel_rfl) (by kernel_rfl) (fun _ => by kernel_rfl) (fun _ => by kernel_rfl) ?_
      simp only [Act.put, List.setIfInBounds_toArray, List.set_cons_succ, List.set_cons_zero]
      refine wpAnyIn_ready (rs := [8, 13]) (by kernel_rfl) (by simp) (ival 8 (some 14) rfl (by kernel_rfl) (by kernel_rfl) (ex_loadN (vs := r.k.cs) 33 2 row33x siz33 rfl rfl ((Holds.block (unhide HR) rfl)) rfl rfl) ?_ (ival 13 (some 19) rfl (by kernel_rfl) (by kernel_rfl) (ex_loadN (vs := r.d.cs) 39 18 row39 siz39 rfl rfl ((Holds.block (unhide HR) rfl)) rfl rfl) ?_ AllReadyIn.nil))
      · simp only [Act.put, List.setIfInBounds_toArray, List.set_cons_succ, List.set_cons_zero]
        refine wpAnyIn_ready (rs := [13]) (by kernel_rfl) (by simp) (ival 13 (some 19) rfl (by kernel_rfl) (by kernel_rfl) (ex_loadN (vs := r.d.cs) 39 18 row39 siz39 rfl rfl ((Holds.block (unhide HR) rfl)) rfl rfl) ?_ AllReadyIn.nil)
        simp only [Act.put, List.setIfInBounds_toArray, List.set_cons_succ, List.set_cons_zero]
        refine wpAnyIn_ready (rs := [14]) (by kernel_rfl) (by simp) (iround 14 (some 20) rfl (by kernel_rfl) (by kernel_rfl) (Eq.trans (b := (Instr.yield l #[r.k.agg, r.d.agg]).run Tryz.prog wr.drew) (by kernel_rfl) (unhide Hy)) (unhide HRd) ?_ AllReadyIn.nil)
        rintro e W3 (⟨rfl, hJ3, hb3⟩ | ⟨rfl, hJx3⟩)
        · refine ⟨_, rfl, ?_⟩
          simp only [Act.put, List.setIfInBounds_toArray, List.set_cons_succ, List.set_cons_zero]
          refine ip 15 (some 21) (.bool true) rfl (by kernel_rfl) (by kernel_rfl) (by kernel_rfl) (fun _ _ _ h => h) (by kernel_rfl) (by kernel_rfl) (fun _ => by kernel_rfl) (fun _ => by kernel_rfl) ?_
          simp only [Act.put, List.setIfInBounds_toArray, List.set_cons_succ, List.set_cons_zero]
          refine wpAnyIn_done (by kernel_rfl) ?_ _
          try simp only [Act.put, List.setIfInBounds_toArray, List.set_cons_succ, List.set_cons_zero]
          have HT3 := hide ((unhide HT).block (fun b hb => hb3.1.block b (hlt b hb)))
          have hc3 : W3.cell? ⟨Bn, 0, none⟩ = some (.pointer (some ⟨T.t, 0, none⟩)) := (World.cell?_of_block (a := ⟨Bn, 0, none⟩) hb3.2).trans hc
          have HJ3 := hide hJ3
          have Hs3 := hide hb3.1.size
          clear hJ3 hb3
          gi_wp2
          refine wpIn_region_any (by kernel_rfl) ?_
          refine ip 1 (some 23) (.pointer (some ⟨r.b, 0, none⟩)) rfl (by kernel_rfl) (by kernel_rfl) (by kernel_rfl) (fun _ _ _ h => h) (by kernel_rfl) (by kernel_rfl) (fun _ => by kernel_rfl) (fun _ => by kernel_rfl) ?_
          simp only [Act.put, List.setIfInBounds_toArray, List.set_cons_succ, List.set_cons_zero]
          refine ip 2 (some 24) (.pointer (some ⟨r.b, 0, none⟩)) rfl (by kernel_rfl) (by kernel_rfl) (by kernel_rfl) (fun _ _ _ h => h) (by kernel_rfl) (by kernel_rfl) (fun _ => by kernel_rfl) (fun _ => by kernel_rfl) ?_
          simp only [Act.put, List.setIfInBounds_toArray, List.set_cons_succ, List.set_cons_zero]
          refine ip 3 (some 25) (.pointer (some ⟨r.b, 20, none⟩)) rfl (by kernel_rfl) (by kernel_rfl) (by kernel_rfl) (fun _ _ _ h => h) (by kernel_rfl) (by kernel_rfl) (fun _ => by kernel_rfl) (fun _ => by kernel_rfl) ?_
          simp only [Act.put, List.setIfInBounds_toArray, List.set_cons_succ, List.set_cons_zero]
          refine wpAnyIn_ready (rs := [0, 4]) (by kernel_rfl) (by simp) (ival 0 (some 22) rfl (by kernel_rfl) (by kernel_rfl) (ex_loadC (W := W3.drew) 26 Tryz.isAgg26 rfl rfl hc3) ?_ (ival 4 (some 26) rfl (by kernel_rfl) (by kernel_rfl) (ex_load1 71 Tryz.isAgg71 rfl rfl ((Holds.block ((unhide HT3).rows r (unhide Hrn).1) rfl : Holds W3.drew r.b r.cs)) rfl) ?_ AllReadyIn.nil))
          · simp only [Act.put, List.setIfInBounds_toArray, List.set_cons_succ, List.set_cons_zero]
            refine wpAnyIn_ready (rs := [4]) (by kernel_rfl) (by simp) (ival 4 (some 26) rfl (by kernel_rfl) (by kernel_rfl) (ex_load1 71 Tryz.isAgg71 rfl rfl ((Holds.block ((unhide HT3).rows r (unhide Hrn).1) rfl : Holds W3.drew r.b r.cs)) rfl) ?_ AllReadyIn.nil)
            simp only [Act.put, List.setIfInBounds_toArray, List.set_cons_succ, List.set_cons_zero]
            refine wpAnyIn_ready (rs := [5]) (by kernel_rfl) (by simp) (icall 5 (some 27) rfl (by kernel_rfl) (by kernel_rfl) (by kernel_rfl) (next50 T r.n W3.drew (unhide HT3).drew (by omega) (by have := ((unhide HT3).num r (unhide Hrn).1).2; omega)) ?_ AllReadyIn.nil)
            rintro e X ⟨rfl, rfl⟩
            refine ⟨_, rfl, ?_⟩
            simp only [Act.put, List.setIfInBounds_toArray, List.set_cons_succ, List.set_cons_zero]
            refine ip 6 (some 3) (pv ((T.next r.n).map (·.b))) rfl (by kernel_rfl) (by kernel_rfl) (by kernel_rfl) (fun _ _ _ h => h) (by kernel_rfl) (by kernel_rfl) (fun _ => by kernel_rfl) (fun _ => by kernel_rfl) ?_
            simp only [Act.put, List.setIfInBounds_toArray, List.set_cons_succ, List.set_cons_zero]
            refine wpAnyIn_done (by kernel_rfl) ?_ _
            try simp only [Act.put, List.setIfInBounds_toArray, List.set_cons_succ, List.set_cons_zero]
            gi_wp2
            go_roundw
            case rel =>
              refine ⟨pre ++ [r.pr], r.n, rfl, hide ?_, hide ?_, hide (unhide HT3).drew, hc3, hide ?_⟩
              · rw [unhide HX, unhide Hfc]; simp
              · exact (unhide HAb) _ W3 W3.drew none (unhide HJ3) (grown_of_below ((Below.refl _ _).drew)) (fun r e => by cases e)
              · have h1 := unhide HZ; have h2 : wr.heap.size ≤ W3.heap.size := unhide Hs3; have h3 := ((unhide HT3).num r (unhide Hrn).1).2; exact ⟨Nat.le_trans h1.1 h2, Nat.le_trans h1.2.1 h2, h3⟩
            case measure =>
              rw [left_next (unhide HT3), left_row (unhide HT3) (unhide Hrn).1]
              exact Nat.lt_succ_self _
          · simp only [Act.put, List.setIfInBounds_toArray, List.set_cons_succ, List.set_cons_zero]
            refine wpAnyIn_ready (rs := [0]) (by kernel_rfl) (by simp) (ival 0 (some 22) rfl (by kernel_rfl) (by kernel_rfl) (ex_loadC (W := W3.drew) 26 Tryz.isAgg26 rfl rfl hc3) ?_ AllReadyIn.nil)
            simp only [Act.put, List.setIfInBounds_toArray, List.set_cons_succ, List.set_cons_zero]
            refine wpAnyIn_ready (rs := [5]) (by kernel_rfl) (by simp) (icall 5 (some 27) rfl (by kernel_rfl) (by kernel_rfl) (by kernel_rfl) (next50 T r.n W3.drew (unhide HT3).drew (by omega) (by have := ((unhide HT3).num r (unhide Hrn).1).2; omega)) ?_ AllReadyIn.nil)
            rintro e X ⟨rfl, rfl⟩
            refine ⟨_, rfl, ?_⟩
            simp only [Act.put, List.setIfInBounds_toArray, List.set_cons_succ, List.set_cons_zero]
            refine ip 6 (some 3) (pv ((T.next r.n).map (·.b))) rfl (by kernel_rfl) (by kernel_rfl) (by kernel_rfl) (fun _ _ _ h => h) (by kernel_rfl) (by kernel_rfl) (fun _ => by kernel_rfl) (fun _ => by kernel_rfl) ?_
            simp only [Act.put, List.setIfInBounds_toArray, List.set_cons_succ, List.set_cons_zero]
            refine wpAnyIn_done (by kernel_rfl) ?_ _
            try simp only [Act.put, List.setIfInBounds_toArray, List.set_cons_succ, List.set_cons_zero]
            gi_wp2
            go_roundw
            case rel =>
              refine ⟨pre ++ [r.pr], r.n, rfl, hide ?_, hide ?_, hide (unhide HT3).drew, hc3, hide ?_⟩
              · rw [unhide HX, unhide Hfc]; simp
              · exact (unhide HAb) _ W3 W3.drew none (unhide HJ3) (grown_of_below ((Below.refl _ _).drew)) (fun r e => by cases e)
              · have h1 := unhide HZ; have h2 : wr.heap.size ≤ W3.heap.size := unhide Hs3; have h3 := ((unhide HT3).num r (unhide Hrn).1).2; exact ⟨Nat.le_trans h1.1 h2, Nat.le_trans h1.2.1 h2, h3⟩
            case measure =>
              rw [left_next (unhide HT3), left_row (unhide HT3) (unhide Hrn).1]
              exact Nat.lt_succ_self _
        · refine ⟨_, rfl, ?_⟩
          simp only [Act.put, List.setIfInBounds_toArray, List.set_cons_succ, List.set_cons_zero]
          refine ip 15 (some 21) (.bool false) rfl (by kernel_rfl) (by kernel_rfl) (by kernel_rfl) (fun _ _ _ h => h) (by kernel_rfl) (by kernel_rfl) (fun _ => by kernel_rfl) (fun _ => by kernel_rfl) ?_
          simp only [Act.put, List.setIfInBounds_toArray, List.set_cons_succ, List.set_cons_zero]
          refine wpAnyIn_done (by kernel_rfl) ?_ _
          try simp only [Act.put, List.setIfInBounds_toArray, List.set_cons_succ, List.set_cons_zero]
          have HJx := hide hJx3
          clear hJx3
          gi_wp2
          go_end0
          refine ⟨⟨_, rfl⟩, .inr ⟨pre ++ [r.pr], ?_, unhide HJx⟩⟩
          rw [unhide HX, unhide Hfc]
          exact ⟨(T.rows.filter (after r.n)).map RR.pr, by simp⟩
      · simp only [Act.put, List.setIfInBounds_toArray, List.set_cons_succ, List.set_cons_zero]
        refine wpAnyIn_ready (rs := [8]) (by kernel_rfl) (by simp) (ival 8 (some 14) rfl (by kernel_rfl) (by kernel_rfl) (ex_loadN (vs := r.k.cs) 33 2 row33x siz33 rfl rfl ((Holds.block (unhide HR) rfl)) rfl rfl) ?_ AllReadyIn.nil)
        simp only [Act.put, List.setIfInBounds_toArray, List.set_cons_succ, List.set_cons_zero]
        refine wpAnyIn_ready (rs := [14]) (by kernel_rfl) (by simp) (iround 14 (some 20) rfl (by kernel_rfl) (by kernel_rfl) (Eq.trans (b := (Instr.yield l #[r.k.agg, r.d.agg]).run Tryz.prog wr.drew) (by kernel_rfl) (unhide Hy)) (unhide HRd) ?_ AllReadyIn.nil)
        rintro e W3 (⟨rfl, hJ3, hb3⟩ | ⟨rfl, hJx3⟩)
        · refine ⟨_, rfl, ?_⟩
          simp only [Act.put, List.setIfInBounds_toArray, List.set_cons_succ, List.set_cons_zero]
          refine ip 15 (some 21) (.bool true) rfl (by kernel_rfl) (by kernel_rfl) (by kernel_rfl) (fun _ _ _ h => h) (by kernel_rfl) (by kernel_rfl) (fun _ => by kernel_rfl) (fun _ => by kernel_rfl) ?_
          simp only [Act.put, List.setIfInBounds_toArray, List.set_cons_succ, List.set_cons_zero]
          refine wpAnyIn_done (by kernel_rfl) ?_ _
          try simp only [Act.put, List.setIfInBounds_toArray, List.set_cons_succ, List.set_cons_zero]
          have HT3 := hide ((unhide HT).block (fun b hb => hb3.1.block b (hlt b hb)))
          have hc3 : W3.cell? ⟨Bn, 0, none⟩ = some (.pointer (some ⟨T.t, 0, none⟩)) := (World.cell?_of_block (a := ⟨Bn, 0, none⟩) hb3.2).trans hc
          have HJ3 := hide hJ3
          have Hs3 := hide hb3.1.size
          clear hJ3 hb3
          gi_wp2
          refine wpIn_region_any (by kernel_rfl) ?_
          refine ip 1 (some 23) (.pointer (some ⟨r.b, 0, none⟩)) rfl (by kernel_rfl) (by kernel_rfl) (by kernel_rfl) (fun _ _ _ h => h) (by kernel_rfl) (by kernel_rfl) (fun _ => by kernel_rfl) (fun _ => by kernel_rfl) ?_
          simp only [Act.put, List.setIfInBounds_toArray, List.set_cons_succ, List.set_cons_zero]
          refine ip 2 (some 24) (.pointer (some ⟨r.b, 0, none⟩)) rfl (by kernel_rfl) (by kernel_rfl) (by kernel_rfl) (fun _ _ _ h => h) (by kernel_rfl) (by kernel_rfl) (fun _ => by kernel_rfl) (fun _ => by kernel_rfl) ?_
          simp only [Act.put, List.setIfInBounds_toArray, List.set_cons_succ, List.set_cons_zero]
          refine ip 3 (some 25) (.pointer (some ⟨r.b, 20, none⟩)) rfl (by kernel_rfl) (by kernel_rfl) (by kernel_rfl) (fun _ _ _ h => h) (by kernel_rfl) (by kernel_rfl) (fun _ => by kernel_rfl) (fun _ => by kernel_rfl) ?_
          simp only [Act.put, List.setIfInBounds_toArray, List.set_cons_succ, List.set_cons_zero]
          refine wpAnyIn_ready (rs := [0, 4]) (by kernel_rfl) (by simp) (ival 0 (some 22) rfl (by kernel_rfl) (by kernel_rfl) (ex_loadC (W := W3.drew) 26 Tryz.isAgg26 rfl rfl hc3) ?_ (ival 4 (some 26) rfl (by kernel_rfl) (by kernel_rfl) (ex_load1 71 Tryz.isAgg71 rfl rfl ((Holds.block ((unhide HT3).rows r (unhide Hrn).1) rfl : Holds W3.drew r.b r.cs)) rfl) ?_ AllReadyIn.nil))
          · simp only [Act.put, List.setIfInBounds_toArray, List.set_cons_succ, List.set_cons_zero]
            refine wpAnyIn_ready (rs := [4]) (by kernel_rfl) (by simp) (ival 4 (some 26) rfl (by kernel_rfl) (by kernel_rfl) (ex_load1 71 Tryz.isAgg71 rfl rfl ((Holds.block ((unhide HT3).rows r (unhide Hrn).1) rfl : Holds W3.drew r.b r.cs)) rfl) ?_ AllReadyIn.nil)
            simp only [Act.put, List.setIfInBounds_toArray, List.set_cons_succ, List.set_cons_zero]
            refine wpAnyIn_ready (rs := [5]) (by kernel_rfl) (by simp) (icall 5 (some 27) rfl (by kernel_rfl) (by kernel_rfl) (by kernel_rfl) (next50 T r.n W3.drew (unhide HT3).drew (by omega) (by have := ((unhide HT3).num r (unhide Hrn).1).2; omega)) ?_ AllReadyIn.nil)
            rintro e X ⟨rfl, rfl⟩
            refine ⟨_, rfl, ?_⟩
            simp only [Act.put, List.setIfInBounds_toArray, List.set_cons_succ, List.set_cons_zero]
            refine ip 6 (some 3) (pv ((T.next r.n).map (·.b))) rfl (by kernel_rfl) (by kernel_rfl) (by kernel_rfl) (fun _ _ _ h => h) (by kernel_rfl) (by kernel_rfl) (fun _ => by kernel_rfl) (fun _ => by kernel_rfl) ?_
            simp only [Act.put, List.setIfInBounds_toArray, List.set_cons_succ, List.set_cons_zero]
            refine wpAnyIn_done (by kernel_rfl) ?_ _
            try simp only [Act.put, List.setIfInBounds_toArray, List.set_cons_succ, List.set_cons_zero]
            gi_wp2
            go_roundw
            case rel =>
              refine ⟨pre ++ [r.pr], r.n, rfl, hide ?_, hide ?_, hide (unhide HT3).drew, hc3, hide ?_⟩
              · rw [unhide HX, unhide Hfc]; simp
              · exact (unhide HAb) _ W3 W3.drew none (unhide HJ3) (grown_of_below ((Below.refl _ _).drew)) (fun r e => by cases e)
              · have h1 := unhide HZ; have h2 : wr.heap.size ≤ W3.heap.size := unhide Hs3; have h3 := ((unhide HT3).num r (unhide Hrn).1).2; exact ⟨Nat.le_trans h1.1 h2, Nat.le_trans h1.2.1 h2, h3⟩
            case measure =>
              rw [left_next (unhide HT3), left_row (unhide HT3) (unhide Hrn).1]
              exact Nat.lt_succ_self _
          · simp only [Act.put, List.setIfInBounds_toArray, List.set_cons_succ, List.set_cons_zero]
            refine wpAnyIn_ready (rs := [0]) (by kernel_rfl) (by simp) (ival 0 (some 22) rfl (by kernel_rfl) (by kernel_rfl) (ex_loadC (W := W3.drew) 26 Tryz.isAgg26 rfl rfl hc3) ?_ AllReadyIn.nil)
            simp only [Act.put, List.setIfInBounds_toArray, List.set_cons_succ, List.set_cons_zero]
            refine wpAnyIn_ready (rs := [5]) (by kernel_rfl) (by simp) (icall 5 (some 27) rfl (by kernel_rfl) (by kernel_rfl) (by kernel_rfl) (next50 T r.n W3.drew (unhide HT3).drew (by omega) (by have := ((unhide HT3).num r (unhide Hrn).1).2; omega)) ?_ AllReadyIn.nil)
            rintro e X ⟨rfl, rfl⟩
            refine ⟨_, rfl, ?_⟩
            simp only [Act.put, List.setIfInBounds_toArray, List.set_cons_succ, List.set_cons_zero]
            refine ip 6 (some 3) (pv ((T.next r.n).map (·.b))) rfl (by kernel_rfl) (by kernel_rfl) (by kernel_rfl) (fun _ _ _ h => h) (by kernel_rfl) (by kernel_rfl) (fun _ => by kernel_rfl) (fun _ => by kernel_rfl) ?_
            simp only [Act.put, List.setIfInBounds_toArray, List.set_cons_succ, List.set_cons_zero]
            refine wpAnyIn_done (by kernel_rfl) ?_ _
            try simp only [Act.put, List.setIfInBounds_toArray, List.set_cons_succ, List.set_cons_zero]
            gi_wp2
            go_roundw
            case rel =>
              refine ⟨pre ++ [r.pr], r.n, rfl, hide ?_, hide ?_, hide (unhide HT3).drew, hc3, hide ?_⟩
              · rw [unhide HX, unhide Hfc]; simp
              · exact (unhide HAb) _ W3 W3.drew none (unhide HJ3) (grown_of_below ((Below.refl _ _).drew)) (fun r e => by cases e)
              · have h1 := unhide HZ; have h2 : wr.heap.size ≤ W3.heap.size := unhide Hs3; have h3 := ((unhide HT3).num r (unhide Hrn).1).2; exact ⟨Nat.le_trans h1.1 h2, Nat.le_trans h1.2.1 h2, h3⟩
            case measure =>
              rw [left_next (unhide HT3), left_row (unhide HT3) (unhide Hrn).1]
              exact Nat.lt_succ_self _
        · refine ⟨_, rfl, ?_⟩
          simp only [Act.put, List.setIfInBounds_toArray, List.set_cons_succ, List.set_cons_zero]
          refine ip 15 (some 21) (.bool false) rfl (by kernel_rfl) (by kernel_rfl) (by kernel_rfl) (fun _ _ _ h => h) (by kernel_rfl) (by kernel_rfl) (fun _ => by kernel_rfl) (fun _ => by kernel_rfl) ?_
          simp only [Act.put, List.setIfInBounds_toArray, List.set_cons_succ, List.set_cons_zero]
          refine wpAnyIn_done (by kernel_rfl) ?_ _
          try simp only [Act.put, List.setIfInBounds_toArray, List.set_cons_succ, List.set_cons_zero]
          have HJx := hide hJx3
          clear hJx3
          gi_wp2
          go_end0
          refine ⟨⟨_, rfl⟩, .inr ⟨pre ++ [r.pr], ?_, unhide HJx⟩⟩
          rw [unhide HX, unhide Hfc]
          exact ⟨(T.rows.filter (after r.n)).map RR.pr, by simp⟩

/-- Pairs with a key that is one. -/
abbrev GP := { x : KK × DD // goodK x.1 = true }
theorem each_stopsM (T : TT) (n : Nat) (hn : 1 ≤ n) (Bn n₀ : Nat) (w : World) (hT : T.Is w) (hlast : T.last < 1000000) (hlt : ∀ b ∈ T.blocks, b < n₀) (hBs : Bn < w.heap.size) (hBn : w.cell? ⟨Bn, 0, none⟩ = some (.pointer (some ⟨T.t, 0, none⟩))) (hn₀ : n₀ ≤ w.heap.size) :
    SeqStopsK (α := GP) Fence.wide n Tryz.prog 49 #[.pointer (some ⟨Bn, 0, none⟩)] (fun x => encP x.1) (Kb n₀ Bn) (fun ys => ys.map (·.1) = T.live.map RR.pr) (fun pre => pre.map (·.1) <+: T.live.map RR.pr) T.live.length w := by
  intro l J Jx W hW hJ hJx hY h0
  have hTW := hT.on hW
  refine (each_inM n hn l Bn n₀ T (fun pre X => ∃ p : List GP, p.map (·.1) = pre ∧ J p X) (fun pre X => ∃ p : List GP, p.map (·.1) = pre ∧ Jx p X) W ?_ hTW hlast hlt ?_ ((hW.cell (p := ⟨Bn, 0, none⟩) hBs).trans hBn) ⟨[], rfl, h0⟩ (by have := hW.size; omega)).mono ?_
  · intro s X X' row hs hg hr
    obtain ⟨p, hp, hj⟩ := hs
    exact ⟨p, hp, hJ p X X' row hj hg hr⟩
  · rintro pre x X ⟨p, rfl, hj⟩ hlen hx
    have hgd : goodK x.1 = true := by
      obtain ⟨r, hr, rfl⟩ := List.mem_map.1 hx
      exact hT.good r hr
    obtain ⟨fn, tmps, asg, bd, hy, hR⟩ := hY p ⟨x, hgd⟩ X hj (by simpa using hlen)
    refine ⟨fn, tmps, asg, bd, hy, hR.mono ?_⟩
    intro e X' h
    rcases h with ⟨h1, h2, h3⟩ | ⟨h1, h2⟩
    · exact .inl ⟨h1, ⟨p ++ [⟨x, hgd⟩], by simp, h2⟩, h3⟩
    · exact .inr ⟨h1, ⟨p ++ [⟨x, hgd⟩], by simp, h2⟩⟩
  · intro e X' h
    obtain ⟨hv, h⟩ := h
    refine ⟨hv, ?_⟩
    rcases h with ⟨ys, h1, p, h2, h3⟩ | ⟨pre, h1, p, h2, h3⟩
    · exact .inl ⟨p, h2.trans h1, h3⟩
    · exact .inr ⟨p, by (show p.map (·.1) <+: T.live.map RR.pr); rw [h2]; exact h1, h3⟩
end Go.Proofs.YtpbdidnphkkenaaGreatDoor

/-! Pf -/
namespace Go.Proofs.YtpbdidnphkkenaaGreatDoor
open Go Go.Proofs Go.Maps Go.RowKit
set_option linter.unusedSimpArgs false
set_option linter.unusedVariables false
set_option maxHeartbeats 1000000
theorem Holds.obj {W : World} {B : Nat} {cs : List Value} (h : Holds W B cs) (h0 : 0 < cs.length) : ∃ cur e fz, W.heap[B]? = some (.cells cur e fz) := by
  have hc := h.cell 0 (List.getElem?_eq_getElem h0)
  cases hb : W.heap[B]? with
  | none => simp [World.cell?, hb] at hc
  | some o => cases o <;> simp [World.cell?, hb] at hc <;> exact ⟨_, _, _, rfl⟩
theorem own_obj {w : World} {base e s n g : Nat} {v : Value} {xs : List Value} (h : w.ownsRow base e s v n xs) (hg : v.ownBlock = some g) : ∃ cur e fz, w.heap[g]? = some (.cells cur e fz) := by
  rcases h.2 with ⟨rfl, -⟩ | ⟨g', cap, cur, rfl, -, h3, -⟩
  · cases hg
  · have e : g' = g := by simpa [Value.ownBlock] using hg
    subst e
    exact ⟨_, _, _, h3⟩
/-- Blocks that a loop's own marks never are. -/
def Plainly (W : World) (B0 b : Nat) : Prop := b < B0 ∨ ∃ cur e fz, W.heap[b]? = some (.cells cur e fz)
theorem Plainly.same {W W' : World} {B0 b : Nat} {row : Option Nat} (h : Plainly W B0 b) (hb : b < W.heap.size) (hg : W.grownBy W' row) (hr : ∀ r, row = some r → B0 ≤ r ∧ ∃ o : Obj, W.heap[r]? = some o ∧ o.isCells = false) : W'.heap[b]? = W.heap[b]? := by
  refine hg.block b hb (fun e => ?_)
  obtain ⟨h1, o, h2, h3⟩ := hr b e.symm
  rcases h with h | ⟨cur, e, fz, h⟩
  · omega
  · rw [h] at h2
    cases h2
    cases h3
theorem TT.Is.plainly {C : TT} {W : World} {B0 : Nat} (h : C.Is W) (hm : C.m < B0) : ∀ b ∈ C.blocks, Plainly W B0 b := by
  intro b hb
  simp only [TT.blocks, List.mem_cons, List.mem_append, List.mem_map] at hb
  rcases hb with rfl | rfl | hb | ⟨r, hr, rfl⟩
  · exact .inr (h.tab.obj (by simp [TT.cs]))
  · exact .inl hm
  · exact .inr (own_obj h.own (by simpa using hb))
  · exact .inr ((h.rows r hr).obj (by simp [rcs_length]))
theorem Loose.plainly {W : World} {t m : Nat} {rv : Value} {n B0 : Nat} {ps : List Nat} (h : Loose W t m rv n ps) (hm : m < B0) : ∀ b ∈ lb t m rv, Plainly W B0 b := by
  intro b hb
  simp only [lb, List.mem_cons] at hb
  rcases hb with rfl | rfl | hb
  · exact .inr (h.tab.obj (by simp))
  · exact .inl hm
  · exact .inr (own_obj h.own (by simpa using hb))
theorem keeps_fr {W W' : World} {B0 : Nat} {E : List Nat} (hf : Fr W W' E) (hE : ∀ b ∈ E, Plainly W B0 b) : KeepsFrom B0 W W' := by
  refine ⟨hf.size, fun k o hB hk ho => ?_⟩
  have hlt := (Array.getElem?_eq_some_iff.1 hk).1
  rw [hf.block k hlt (fun hm => ?_)]
  · exact hk
  · rcases hE k hm with h | ⟨cur, e, fz, h⟩
    · omega
    · rw [h] at hk
      cases hk
      cases ho
theorem TT.Is.loose {C : TT} {W : World} (h : C.Is W) : Loose W C.t C.m C.rv C.last (C.rows.map (·.b)) := by
  have ap := TT.apart h.nd
  have := h.len
  exact ⟨h.tab, ⟨_, _, h.map⟩, h.own, by simpa using this, ap.tm, fun g hg => ⟨(ap.tv g hg).1, (ap.tv g hg).2.1⟩⟩
def Dst (pre : List GP) : Prop := (pre.map (fun x => x.1.1)).Pairwise (fun a b => a ≠ b)
theorem dst_snoc (pre : List GP) (x : GP) : Dst (pre ++ [x]) ↔ Dst pre ∧ ∀ y ∈ pre, y.1.1 ≠ x.1.1 := by
  unfold Dst
  rw [List.map_append, List.pairwise_append]
  simp
/-- Where a clone may lie. -/
def Okb (n₀ Bn B3 : Nat) (l : List Nat) : Prop := ∀ b ∈ l, n₀ ≤ b ∧ b ≠ Bn ∧ b ≠ B3
/-- A clone in the midst of being made. -/
def CI (ct cm n₀ Bn B3 : Nat) (pre : List GP) (W : World) : Prop :=
  (Dst pre ∧ ∃ C : TT, C.Is W ∧ C.t = ct ∧ C.m = cm ∧ C.live.map RR.pr = pre.map (·.1) ∧ C.last = pre.length ∧ Okb n₀ Bn B3 C.blocks) ∨ (¬ Dst pre ∧ ∃ rv ps, Loose W ct cm rv pre.length ps ∧ Okb n₀ Bn B3 (lb ct cm rv))
theorem CI.own {ct cm n₀ Bn B3 B0 : Nat} (hm : cm < B0) : OwnFrom B0 (CI ct cm n₀ Bn B3) := by
  intro pre W W' row hs hg hr
  rcases hs with ⟨h1, C, h2, h3, h4, h5, h6, h7⟩ | ⟨h1, rv, ps, h2, h3⟩
  · exact .inl ⟨h1, C, h2.block (fun b hb => (h2.plainly (h4 ▸ hm) b hb).same (h2.lt b hb) hg hr), h3, h4, h5, h6, h7⟩
  · exact .inr ⟨h1, rv, ps, h2.block (fun b hb => (h2.plainly hm b hb).same (h2.lt b hb) hg hr), h3⟩
theorem CI.on {ct cm n₀ Bn B3 : Nat} {pre : List GP} {W W' : World} (h : CI ct cm n₀ Bn B3 pre W) (hb : Below W.heap.size W W') : CI ct cm n₀ Bn B3 pre W' := by
  rcases h with ⟨h1, C, h2, h3⟩ | ⟨h1, rv, ps, h2, h3⟩
  · exact .inl ⟨h1, C, h2.on hb, h3⟩
  · exact .inr ⟨h1, rv, ps, h2.block (fun b hb' => hb.block b (h2.lt b hb')), h3⟩
/-- One more. -/
theorem clone_add {ct cm n₀ Bn B3 B0 : Nat} {pre : List GP} {W : World} (x : GP) (h : CI ct cm n₀ Bn B3 pre W) (hm : cm < B0) (hn : pre.length < 100000) (hs : n₀ ≤ W.heap.size) (hB : Bn < W.heap.size ∧ B3 < W.heap.size) : Calls Tryz.prog 34 #[.pointer (some ⟨ct, 0, none⟩), .agg (x.1.1.cs ++ x.1.2.cs).toArray] W fun e W' => e = .returned (.tuple #[]) ∧ CI ct cm n₀ Bn B3 (pre ++ [x]) W' ∧ ∃ E, Fr W W' E ∧ (∀ b ∈ E, Plainly W B0 b) ∧ Okb n₀ Bn B3 E := by
  have hok := good_ok x.2
  by_cases hd : Dst (pre ++ [x])
  · obtain ⟨hd1, hd2⟩ := (dst_snoc pre x).1 hd
    rcases h with ⟨-, C, h2, h3, h4, h5, h6, h7⟩ | ⟨h1, -⟩
    · have hf : C.find x.1.1 = none := by
        unfold TT.find
        rw [List.find?_eq_none]
        intro r hr
        have h8 : r.pr ∈ pre.map (·.1) := by rw [← h5]; exact List.mem_map.2 ⟨r, hr, rfl⟩
        obtain ⟨y, hy, e⟩ := List.mem_map.1 h8
        have := hd2 y hy
        rw [e] at this
        simpa [RR.pr] using this
      rw [← h3]
      refine (add34 C x.1.1 x.1.2 W h2 hok x.2 hf (by omega)).mono ?_
      rintro e W' ⟨rfl, rv, R, h8, h9, h10, h11⟩
      refine ⟨rfl, .inl ⟨hd, _, h8, rfl, h4, ?_, ?_, ?_⟩, C.blocks, h9, h2.plainly (h4 ▸ hm), h7⟩
      · rw [TT.added_live, List.map_append, h5, List.map_append]
        rfl
      · show C.last + 1 = _
        rw [h6, List.length_append]
        rfl
      · intro b hb
        simp only [TT.blocks, TT.added, List.mem_cons, List.mem_append, List.map_append, List.map_cons, List.map_nil, List.mem_singleton] at hb
        have hC : ∀ b, b ∈ C.blocks → n₀ ≤ b ∧ b ≠ Bn ∧ b ≠ B3 := h7
        have hnew : ∀ b, W.heap.size ≤ b → n₀ ≤ b ∧ b ≠ Bn ∧ b ≠ B3 := fun b hb => ⟨by omega, by omega, by omega⟩
        rcases hb with rfl | rfl | hb | hb | hb
        · exact hC _ (by simp [TT.blocks])
        · exact hC _ (by simp [TT.blocks])
        · rcases h11 b (by simpa using hb) with h12 | h12
          · exact hC b (by unfold TT.blocks; rw [h12]; simp)
          · exact hnew b h12
        · exact hC b (by unfold TT.blocks; simp only [List.mem_cons, List.mem_append]; exact .inr (.inr (.inr hb)))
        · simp at hb
          exact hnew b (by omega)
    · exact absurd hd1 h1
  · have hL : ∃ rv ps, Loose W ct cm rv pre.length ps ∧ Okb n₀ Bn B3 (lb ct cm rv) := by
      rcases h with ⟨-, C, h2, h3, h4, h5, h6, h7⟩ | ⟨-, h⟩
      · have := h2.loose
        rw [h3, h4, h6] at this
        refine ⟨_, _, this, fun b hb => h7 b ?_⟩
        simp only [lb, TT.blocks, List.mem_cons, List.mem_append, ← h3, ← h4] at hb ⊢
        rcases hb with h | h | h
        · exact .inl h
        · exact .inr (.inl h)
        · exact .inr (.inr (.inl h))
      · exact h
    obtain ⟨rv, ps, hl, ho⟩ := hL
    refine (add34w ct cm rv pre.length ps x.1.1 x.1.2 W hl hok (by omega)).mono ?_
    rintro e W' ⟨rfl, rv', R, h8, h9, h10⟩
    refine ⟨rfl, .inr ⟨hd, rv', _, by rw [List.length_append]; exact h8, ?_⟩, lb ct cm rv, h9, hl.plainly hm, ho⟩
    intro b hb
    simp only [lb, List.mem_cons] at hb
    rcases hb with rfl | rfl | hb
    · exact ho _ (by simp [lb])
    · exact ho _ (by simp [lb])
    · rcases h10 b (by simpa using hb) with h12 | h12
      · exact ho b (by simp [lb, h12])
      · exact ⟨by omega, by omega, by omega⟩
end Go.Proofs.YtpbdidnphkkenaaGreatDoor

/-! Pg -/
namespace Go.Proofs.YtpbdidnphkkenaaGreatDoor
open Go Go.Proofs Go.Maps Go.RowKit
set_option linter.unusedSimpArgs false
set_option linter.unusedVariables false
set_option maxHeartbeats 1000000
theorem inCall {F : Fence} {n l : Nat} {ops : Array Oper} {rest : List Oper} {Q : Exit → Act → World → Prop} {w : World} {a : Act} {o : Oper} {f : FuncId} {args : Array Value} {R : Ending → World → Prop} (hF : F = Fence.wide.inRound l) (hw : Region.wanted o (yielded ops a.tmps) = true) (hnd : ∀ c, o.op ≠ .defer c) (he : (execOp a.eval o).run Tryz.prog w = .ok (.enter f args) w) (hC : Calls Tryz.prog f args w R)
    (h : ∀ e X, R e X → ∃ V, e = .returned V ∧ wpListIn F n Tryz.prog ops Q rest (a.put o.dst V) X) : wpListIn F n Tryz.prog ops Q (o :: rest) a w := by
  subst hF
  refine BigFrame.wpListIn_want hw fun K hK => ?_
  refine ⟨fun f _ => trivial, ?_⟩
  have e : o.semAt (Fence.wide.inRound l).round a.eval = execOp a.eval o := Oper.semAt_some l _ _ hnd
  rw [e, he, Oper.uponIn_enter]
  refine ⟨(fun h => by cases h), ((callsIn_wide.2 hC).inRound l).mono ?_⟩
  intro e X hR
  obtain ⟨V, rfl, hV⟩ := h e X hR
  exact hK _ _ hV
set_option maxRecDepth 100000 in
theorem clone24 (T : TT) (w : World) (hT : T.Is w) (hlast : T.last < 100000) : Calls Tryz.prog 24 #[.pointer (some ⟨T.t, 0, none⟩)] w fun e w' => ∃ C : TT, e = .returned (.pointer (some ⟨C.t, 0, none⟩)) ∧ C.Is w' ∧ C.live.map RR.pr = T.live.map RR.pr ∧ C.last = T.live.length ∧ (∀ b ∈ C.blocks, w.heap.size ≤ b) ∧ Below w.heap.size w w' := by
  refine (callsIn_wide (n := 4)).1 ?_
  have HN := hide (new10 w)
  have HE := hide (fun X => each41 T X)
  have HT := hide hT
  have hll : T.live.length ≤ 100000 := by have h1 := T.live_le; have h2 := hT.len; omega
  clear hT
  refine callsIn_of_wp_marks Tryz.func24 rfl trivial ?_ rfl
  simp only [Tryz.ntmps24, List.size_toArray, List.length_cons, List.length_nil, Nat.reduceAdd, Nat.reduceSub, Array.replicate_succ, Array.replicate_zero, List.push_toArray, List.append_toArray, List.nil_append, List.cons_append]
  gi_wp2_with fail
  refine ⟨trivial, (callsIn_wide.2 (unhide HN)).mono ?_⟩
  rintro e w1 ⟨C0, rfl, hC0, hr0, hl0, hb0, hB0⟩
  have HC0 := hide (And.intro hC0 (And.intro hr0 (And.intro hl0 (And.intro hb0 hB0))))
  clear hC0 hr0 hl0 hb0 hB0
  gi_wp2_with fail
  refine ⟨trivial, (callsIn_wide.2 ((unhide HE) _)).mono ?_⟩
  rintro e w2 ⟨rfl, rfl⟩
  obtain ⟨hC0, hr0, hl0, hb0, hB0⟩ := unhide HC0
  have hs1 := hB0.size
  have b3 : Boxed (w1.alloc (.cells #[.pointer (some ⟨C0.t, 0, none⟩)] 26)) w1.heap.size 26 (.pointer (some ⟨C0.t, 0, none⟩)) := Boxed.new w1 26 _
  have bn : Boxed ((w1.alloc (.cells #[.pointer (some ⟨C0.t, 0, none⟩)] 26)).alloc (.cells #[.pointer (some ⟨T.t, 0, none⟩)] 26)) (w1.heap.size + 1) 26 (.pointer (some ⟨T.t, 0, none⟩)) := by
    have := Boxed.new (w1.alloc (.cells #[.pointer (some ⟨C0.t, 0, none⟩)] 26)) 26 (.pointer (some ⟨T.t, 0, none⟩))
    rwa [World.size_alloc] at this
  have hBa : Below w1.heap.size w1 ((w1.alloc (.cells #[.pointer (some ⟨C0.t, 0, none⟩)] 26)).alloc (.cells #[.pointer (some ⟨T.t, 0, none⟩)] 26)) := ((Below.refl _ _).alloc (Nat.le_refl _) _).alloc (by simp) _
  have hB1 : Below w.heap.size w ((w1.alloc (.cells #[.pointer (some ⟨C0.t, 0, none⟩)] 26)).alloc (.cells #[.pointer (some ⟨T.t, 0, none⟩)] 26)) := hB0.trans (hBa.mono hs1)
  have hT3 := (unhide HT).on hB1
  have hlt3 := (unhide HT).lt
  have hcm : C0.m < w1.heap.size := hC0.lt C0.m (by simp [TT.blocks])
  have hC3 := hC0.on hBa
  have hokb : Okb w.heap.size (w1.heap.size + 1) w1.heap.size C0.blocks := fun b hb => by
    have h1 := hC0.lt b hb
    have h2 := hb0 b hb
    exact ⟨h2, by omega, by omega⟩
  have hCI0 : CI C0.t C0.m w.heap.size (w1.heap.size + 1) w1.heap.size [] ((w1.alloc (.cells #[.pointer (some ⟨C0.t, 0, none⟩)] 26)).alloc (.cells #[.pointer (some ⟨T.t, 0, none⟩)] 26)) := .inl ⟨List.Pairwise.nil, C0, hC3, rfl, rfl, by unfold TT.live; rw [hr0]; rfl, hl0, hokb⟩
  have HCM := hide hcm
  clear HN HE HC0 hC0 hr0 hl0 hb0 hokb hC3
  gi_wp2
  try simp only [World.size_alloc]
  refine wpIn_rangeFunc_ownH (α := GP) rfl (by omega) (gf := 49) (lb := #[.pointer (some ⟨w1.heap.size + 1, 0, none⟩)]) rfl trivial (enters_of Tryz.func49 (by kernel_rfl) rfl)
    (each_stopsM T 3 (by omega) (w1.heap.size + 1) w.heap.size _ hT3 (by omega) hlt3 (by simp) bn.cell (by simp; omega)) kb_t (kb_b (by simp; omega) (by simp)) (Below.refl _ _) (fun _ => rfl)
    (fun pre W => CI C0.t C0.m w.heap.size (w1.heap.size + 1) w1.heap.size pre W ∧ Boxed W w1.heap.size 26 (.pointer (some ⟨C0.t, 0, none⟩)) ∧ Boxed W (w1.heap.size + 1) 26 (.pointer (some ⟨T.t, 0, none⟩)) ∧ Below w.heap.size w W)
    (fun _ _ _ => False)
    (OwnFrom.and (CI.own (by have := unhide HCM; simp; omega)) (OwnFrom.and (Own.from (boxed_own _ _ _) _) (OwnFrom.and (Own.from (boxed_own _ _ _) _) (ownFrom_below (Nat.le_refl _) (by simp; omega)))))
    (fun _ _ _ _ _ hs _ _ => hs)
    ⟨hCI0, b3.alloc _, bn, hB1⟩
    (fun x a' W => ∃ Bk Bd, a' = { tmps := #[.pointer (some ⟨T.t, 0, none⟩), undef, .pointer none, .pointer (some ⟨w1.heap.size, 0, none⟩), .pointer (some ⟨Bk, 0, none⟩), .pointer (some ⟨Bd, 0, none⟩), .pointer (some ⟨C0.t, 0, none⟩), .pointer (some ⟨T.t, 0, none⟩), .func (.func 49) #[] #[.pointer (some ⟨w1.heap.size + 1, 0, none⟩)], x.1.1.agg, x.1.2.agg, undef, undef, undef, undef, undef, undef], defers := [] } ∧ Holds W Bk x.1.1.cs ∧ Holds W Bd x.1.2.cs)
    (fun x a' _ X Y row hs hg hr => by
      obtain ⟨Bk, Bd, h1, h2, h3⟩ := hs
      exact ⟨Bk, Bd, h1, holds_own h2 (Nat.succ_pos _) hg (fun r e => (hr r e).2), holds_own h3 (Nat.succ_pos _) hg (fun r e => (hr r e).2)⟩)
    ?assign ?body ?done ?stop
  case assign =>
    intro l pre x W K hI hK
    simp only [encP]
    obtain ⟨p1, p2, p3⟩ := new_var W zeroK.cs x.1.1.cs 33 (Nat.le_refl _) rfl (Nat.succ_pos _)
    obtain ⟨X1, hX1⟩ : ∃ X1, X1 = (W.alloc (Obj.cells zeroK.cs.toArray 33)).setCells W.heap.size 0 x.1.1.cs := ⟨_, rfl⟩
    rw [← hX1] at p1 p2 p3
    obtain ⟨q1, q2, q3⟩ := new_var X1 zeroD.cs x.1.2.cs 39 (Nat.le_refl _) rfl (Nat.succ_pos _)
    obtain ⟨X2, hX2⟩ : ∃ X2, X2 = (X1.alloc (Obj.cells zeroD.cs.toArray 39)).setCells X1.heap.size 0 x.1.2.cs := ⟨_, rfl⟩
    rw [← hX2] at q1 q2 q3
    have HK := hide (hK)
    have hb2 : Below W.heap.size W X2 := p1.trans (q1.mono (by omega))
    have hg2 : W.grownBy X2 none := grown_of_below hb2
    have hI2 : Hid _ := hide hI
    clear hK hI
    have ht : ((#[9, 10] : Array Tmp).zip #[x.1.1.agg, x.1.2.agg]).foldl (fun t x => t.setIfInBounds x.1 x.2) (#[.pointer (some ⟨T.t, 0, none⟩), undef, .pointer none, .pointer (some ⟨w1.heap.size, 0, none⟩), undef, undef, .pointer (some ⟨C0.t, 0, none⟩), .pointer (some ⟨T.t, 0, none⟩), .func (.func 49) #[] #[.pointer (some ⟨w1.heap.size + 1, 0, none⟩)], undef, undef, undef, undef, undef, undef, undef, undef] : Array Value) = #[.pointer (some ⟨T.t, 0, none⟩), undef, .pointer none, .pointer (some ⟨w1.heap.size, 0, none⟩), undef, undef, .pointer (some ⟨C0.t, 0, none⟩), .pointer (some ⟨T.t, 0, none⟩), .func (.func 49) #[] #[.pointer (some ⟨w1.heap.size + 1, 0, none⟩)], x.1.1.agg, x.1.2.agg, undef, undef, undef, undef, undef, undef] := by simp
    rw [ht]
    gi_wp2_with (first | go_skip | ((refine inV (fun _ => trivial) (by rfl) (by intro c h; cases h) (ex_alloc33 rfl) ?_); simp only [Act.put, List.setIfInBounds_toArray, List.set_cons_succ, List.set_cons_zero]) | ((refine inS (fun _ => trivial) (by rfl) (by intro c h; cases h) (ex_store (t := 33) (vs := x.1.1.cs) rfl rfl rfl rfl (by simp [KK.cs, Value.oneCell']) siz33 (Holds.new W zeroK.cs 33) (Nat.le_refl _)) ?_); rw [← hX1]; simp only [Act.put, List.setIfInBounds_toArray, List.set_cons_succ, List.set_cons_zero]) | ((refine inV (fun _ => trivial) (by rfl) (by intro c h; cases h) (ex_alloc39 rfl) ?_); simp only [Act.put, List.setIfInBounds_toArray, List.set_cons_succ, List.set_cons_zero]) | ((refine inS (fun _ => trivial) (by rfl) (by intro c h; cases h) (ex_store (t := 39) (vs := x.1.2.cs) rfl rfl rfl rfl (by simp [DD.cs, VV.cs, Value.oneCell']) siz39 (Holds.new X1 zeroD.cs 39) (Nat.le_refl _)) ?_); rw [← hX2]; simp only [Act.put, List.setIfInBounds_toArray, List.set_cons_succ, List.set_cons_zero]))
    obtain ⟨hci, hv, hbn, hB⟩ := unhide hI2
    have hsz := hB.size
    refine (unhide HK) _ X2 (KeepsFrom.of_grownBy hg2 (fun j e => by cases e)) ⟨hb2.mono hsz, hb2.block _ hbn.lt⟩ ⟨hci.on hb2, hv.kept hg2 (by simp), hbn.kept hg2 (by simp), hB.trans (hb2.mono hsz)⟩ ⟨W.heap.size, X1.heap.size, rfl, p2.block (q1.block _ (by omega)), q2⟩
  case body =>
    rintro l pre x a' W hl2 hloop ⟨hci, hv, hbn, hB⟩ ⟨Bk, Bd, rfl, hk, hd⟩ hlen
    have hC := clone_add (B0 := w1.heap.size + 1 + 1) x hci (by have := unhide HCM; omega) (by omega) hB.size ⟨hbn.lt, hv.lt⟩
    have HC := hide hC
    have Hk := hide hk
    have Hd := hide hd
    have Hv := hide hv
    have Hbn := hide hbn
    have HB := hide hB
    clear hk hd hv hbn hB hloop hC hci
    refine wpIn_block ?_
    refine wpIn_region_lit ?_
    refine inV (fun _ => trivial) (by rfl) (by intro c h; cases h) (ex_loadC (B := w1.heap.size) (p := 0) (v := .pointer (some ⟨C0.t, 0, none⟩)) 26 Tryz.isAgg26 rfl rfl (unhide Hv).cell) ?_
    simp only [Act.put, List.setIfInBounds_toArray, List.set_cons_succ, List.set_cons_zero]
    refine inV (fun _ => trivial) (by rfl) (by intro c h; cases h) (ex_loadN (B := Bk) (p := 0) (cs := x.1.1.cs) (vs := x.1.1.cs) 33 2 row33x siz33 rfl rfl (unhide Hk) rfl rfl) ?_
    simp only [Act.put, List.setIfInBounds_toArray, List.set_cons_succ, List.set_cons_zero]
    refine inV (fun _ => trivial) (by rfl) (by intro c h; cases h) (ex_loadN (B := Bd) (p := 0) (cs := x.1.2.cs) (vs := x.1.2.cs) 39 18 row39 siz39 rfl rfl (unhide Hd) rfl rfl) ?_
    simp only [Act.put, List.setIfInBounds_toArray, List.set_cons_succ, List.set_cons_zero]
    refine inV (fun _ => trivial) (by rfl) (by intro c h; cases h) (ex_build58 (k := x.1.1) (d := x.1.2) rfl rfl rfl) ?_
    simp only [Act.put, List.setIfInBounds_toArray, List.set_cons_succ, List.set_cons_zero]
    refine inCall (l := l) rfl (by rfl) (by intro c h; cases h) (by kernel_rfl) (unhide HC) ?_
    rintro e W' ⟨rfl, hci, E, hf, hpl, hok⟩
    refine ⟨_, rfl, ?_⟩
    refine wpListIn_nil ?_
    have hv := unhide Hv
    have hbn := unhide Hbn
    have hB := unhide HB
    have e3 : W'.heap[w1.heap.size]? = W.heap[w1.heap.size]? := hf.block _ hv.lt (fun hm => (hok _ hm).2.2 rfl)
    have en : W'.heap[w1.heap.size + 1]? = W.heap[w1.heap.size + 1]? := hf.block _ hbn.lt (fun hm => (hok _ hm).2.1 rfl)
    have hbel : Below w.heap.size W W' := ⟨hf.os, hf.tape, hf.output, hf.size, fun b hb => hf.block b (Nat.lt_of_lt_of_le hb hB.size) (fun hm => by have := (hok _ hm).1; omega)⟩
    exact ⟨by (rw [World.size_alloc, World.size_alloc]); exact keeps_fr hf hpl, ⟨hbel, en⟩, ⟨hci, e3.trans hv, en.trans hbn, hB.trans hbel⟩⟩
  case done =>
    rintro D ys W hD hys ⟨hci, hv, hbn, hB⟩ hK
    have hc := hv.cell
    have hdst : Dst ys := by
      unfold Dst
      have h1 : (ys.map (·.1)).map (·.1) = (T.live.map RR.pr).map (·.1) := by rw [hys]
      rw [List.map_map, List.map_map] at h1
      have h2 : ys.map (fun x => x.1.1) = T.live.map (·.k) := h1
      rw [h2, List.pairwise_map]
      exact (unhide HT).keys
    rcases hci with ⟨-, C, hC, h3, h4, h5, h6, h7⟩ | ⟨h1, -⟩
    · have hlen : ys.length = T.live.length := by have := congrArg List.length hys; simpa using this
      have HCC := hide (And.intro hC (And.intro h3 (And.intro h4 (And.intro h5 (And.intro h6 (And.intro h7 hlen))))))
      clear hC h3 h4 h5 h6 h7 hlen hdst
      gi_wp2
      obtain ⟨hC, h3, h4, h5, h6, h7, hlen⟩ := unhide HCC
      refine ⟨by simp, .inl ⟨_, _, rfl, run_takeDeferred hK, ?_⟩⟩
      have hbk := belowK_b (w := w) (Nat.le_refl _) W D _ (.deferred none) (by simp at hD; omega) hK rfl rfl
      refine ⟨_, results_tmp rfl _ _ _, C, by rw [h3]; rfl, ?_, h5.trans hys, h6.trans hlen, fun b hb => (h7 b hb).1, hB.trans hbk⟩
      refine hC.block (fun b hb => ?_)
      rcases hC.plainly (B0 := w1.heap.size + 1 + 1) (by have := unhide HCM; omega) b hb with h8 | ⟨cur, e, fz, h8⟩
      · exact World.putObj_heap_other (by simp at hD; omega)
      · exact World.putObj_heap_other (fun e => by rw [e] at h8; rw [hK] at h8; cases h8)
    · exact absurd hdst h1
  case stop =>
    rintro D c pre W _ _ h _
    exact h.elim
end Go.Proofs.YtpbdidnphkkenaaGreatDoor

/-! Ph -/
namespace Go.Proofs.YtpbdidnphkkenaaGreatDoor
open Go Go.Proofs Go.Maps Go.RowKit
set_option linter.unusedSimpArgs false
set_option linter.unusedVariables false
set_option maxHeartbeats 1000000
theorem PS.Is.cloned {S : PS} {w W' : World} {base N m : Nat} (h : S.Is w base N) (hf : Fr w W' [S.P]) {C : TT} {R' : RT} (hC : C.Is W') (hR : R'.Is W') (hc1 : ∀ b ∈ C.blocks, w.heap.size ≤ b ∧ b < m) (hr1 : ∀ b ∈ R'.blocks, m ≤ b) (hm : w.heap.size ≤ m) (hl : C.live.map RR.pr = S.T0.live.map RR.pr) (hcl : C.last = S.T0.live.length) (he : R'.es = S.R0.es) (hn : R'.nx = S.R0.nx) (hh : Holds W' S.P (pairCs S.T0.t C.t S.R0.t R'.t S.left)) : PS.Is { S with T1 := C, R1 := R' } W' base (N + 1) ∧ Went S { S with T1 := C, R1 := R' } w W' := by
  have n : ∀ i B, S.parts[i]? = some B → 0 < i → ∀ b ∈ B, b ∉ [S.P] := fun i B hi h0 b hb hm => by
    obtain rfl : b = S.P := by simpa using hm
    exact h.bs.d 0 i _ _ rfl hi h0 S.P (by simp) hb
  have hlt := h.bs.lt
  have hPl : S.P < w.heap.size := hlt [S.P] (by simp [PS.parts]) S.P (by simp)
  have l0 : ∀ b ∈ S.T0.blocks, b < w.heap.size := hlt _ (by simp [PS.parts])
  have l3 : ∀ b ∈ S.R0.blocks, b < w.heap.size := hlt _ (by simp [PS.parts])
  have d := h.bs.d
  have hlive := h.live0
  have hnx := h.nx
  have hla := h.last
  have hnew : ∀ b ∈ (PS.parts { S with T1 := C, R1 := R' }).flatten, b ∈ S.parts.flatten ∨ w.heap.size ≤ b := by
    intro b hb
    simp only [PS.parts, List.flatten_cons, List.flatten_nil, List.mem_append, List.append_nil] at hb ⊢
    rcases hb with h1 | h1 | h1 | h1 | h1
    · exact .inl (.inl h1)
    · exact .inl (.inr (.inl h1))
    · exact .inr (hc1 b h1).1
    · exact .inl (.inr (.inr (.inr (.inl h1))))
    · have := hr1 b h1; exact .inr (by omega)
  refine ⟨⟨⟨hh, h.bs.t0.fr hf (n 1 _ rfl (by omega)), hC, h.bs.r0.fr hf (n 3 _ rfl (by omega)), hR, ?_, ?_, h.bs.four, Nat.le_trans h.bs.size hf.size⟩, h.rel0, ?_, ⟨by show S.T0.last ≤ N + 1; omega, by show C.last ≤ N + 1; omega⟩, ⟨hnx.1, by show S.R0.nx ≤ ((N + 1 : Nat) : Int); omega, by show 0 ≤ R'.nx; omega, by show R'.nx ≤ ((N + 1 : Nat) : Int); omega⟩⟩, rfl, hf.mono (fun b hb => .inl ?_), hnew⟩
  · unfold PS.parts
    refine List.pairwise_cons.2 ⟨?_, List.pairwise_cons.2 ⟨?_, List.pairwise_cons.2 ⟨?_, List.pairwise_cons.2 ⟨?_, List.pairwise_cons.2 ⟨?_, List.Pairwise.nil⟩⟩⟩⟩⟩
    · intro B hB
      simp only [List.mem_cons, List.not_mem_nil, or_false] at hB
      rcases hB with rfl | rfl | rfl | rfl
      · exact d 0 1 _ _ rfl rfl (by omega)
      · intro x hx hx'
        obtain rfl : x = S.P := by simpa using hx
        have := (hc1 _ hx').1
        omega
      · exact d 0 3 _ _ rfl rfl (by omega)
      · intro x hx hx'
        obtain rfl : x = S.P := by simpa using hx
        have := hr1 _ hx'
        omega
    · intro B hB x hx hx'
      have h1 := l0 x hx
      simp only [List.mem_cons, List.not_mem_nil, or_false] at hB
      rcases hB with rfl | rfl | rfl
      · have := (hc1 _ hx').1
        omega
      · exact d 1 3 _ _ rfl rfl (by omega) x hx hx'
      · have := hr1 _ hx'
        omega
    · intro B hB x hx hx'
      have h1 := hc1 x hx
      simp only [List.mem_cons, List.not_mem_nil, or_false] at hB
      rcases hB with rfl | rfl
      · have := l3 _ hx'
        omega
      · have := hr1 _ hx'
        omega
    · intro B hB x hx hx'
      obtain rfl : B = R'.blocks := by simpa using hB
      have h1 := l3 x hx
      have := hr1 _ hx'
      omega
    · intro B hB
      cases hB
  · intro B hB b hb
    rcases hnew b (List.mem_flatten.2 ⟨B, hB, hb⟩) with h1 | h1
    · obtain ⟨D, hD, hbD⟩ := List.mem_flatten.1 h1
      exact h.bs.low D hD b hbD
    · exact Nat.le_trans h.bs.size h1
  · show C.live.map RR.pr = R'.es.map EE.pr
    rw [hl, he]
    exact h.rel0
  · obtain rfl : b = S.P := by simpa using hb
    exact List.mem_flatten.2 ⟨[S.P], by simp [PS.parts], by simp⟩
set_option maxRecDepth 100000 in
theorem play_clone (S : PS) (k : KK) (d : DD) (nn : Int) (inner : Value) (dep : Int) (w : World) (base N : Nat) (hS : S.Is w base N) (hN : N < 3000) (hU : ∀ X, Below base w X → Lib.Utf8Tabs 2 3 X) (hP : ∀ X, Below base w X → TabP X) : Calls Tryz.prog 8 #[.pointer (some ⟨S.P, 0, none⟩), actV 8 k d nn inner, .int .i64 dep] w fun e w' => e = .returned (.bool true) ∧ ∃ S', S'.Is w' base (N + 1) ∧ Went S S' w w' := by
  have HU := hide hU
  have HPf := hide hP
  have HBZ := hide hS.bs.size
  clear hU hP
  have HP := hide hS.bs.hold
  have HLT := hide hS.bs.lt
  have HS := hide hS
  clear hS
  unfold actV
  go_enter Tryz.func8, Tryz.ntmps8
  go_wp2_with (first | go_skip | (refine bx 41 (actCs 8 k d nn inner) (by rfl) rfl rfl rfl (Nat.succ_pos _) (Hq.nil w []) ?_; intro w1 B hB L1 hb1; replace HP := hide ((unhide HS).bs.on hb1).hold; replace HS := hide ((unhide HS).on hb1); have LL := hide L1; have HB1 := hide hb1; have HB := hide hB; clear hB L1 hb1; simp only [Act.put, List.setIfInBounds_toArray, List.set_cons_succ, List.set_cons_zero]) | (refine rd (by rfl) (ex_load1 26 Tryz.isAgg26 rfl rfl (unhide HP) rfl) ?_; simp only [Act.put, List.setIfInBounds_toArray, List.set_cons_succ, List.set_cons_zero]) | (refine rd (by rfl) (ex_load1 28 Tryz.isAgg28 rfl rfl (unhide HP) rfl) ?_; simp only [Act.put, List.setIfInBounds_toArray, List.set_cons_succ, List.set_cons_zero]) | (refine rd (by rfl) (ex_load1 3 Tryz.isAgg3 rfl rfl ((unhide LL).get 0 rfl) rfl) ?_; simp only [Act.put, List.setIfInBounds_toArray, List.set_cons_succ, List.set_cons_zero]))
  refine wp_region_held_drew (P := Tryz.prog) (S := fun _ => True) (by kernel_rfl) trivial (fun hS0 => ?_)
  refine gsem 0 (some 146) (.pointer (some ⟨S.P, 0, none⟩)) rfl (by kernel_rfl) (by kernel_rfl) (by kernel_rfl) (fun _ _ _ h => h) (by kernel_rfl) (by kernel_rfl) (fun _ _ => by kernel_rfl) trivial ?_
  simp only [Act.put, List.setIfInBounds_toArray, List.set_cons_succ, List.set_cons_zero]
  refine gsem 1 (some 147) (.pointer (some ⟨S.T0.t, 0, none⟩)) rfl (by kernel_rfl) (by kernel_rfl) (by kernel_rfl) (fun _ _ _ h => h) (by kernel_rfl) (by kernel_rfl) (fun _ _ => by kernel_rfl) trivial ?_
  simp only [Act.put, List.setIfInBounds_toArray, List.set_cons_succ, List.set_cons_zero]
  refine gsem 3 (some 149) (.pointer (some ⟨S.P, 0, none⟩)) rfl (by kernel_rfl) (by kernel_rfl) (by kernel_rfl) (fun _ _ _ h => h) (by kernel_rfl) (by kernel_rfl) (fun _ _ => by kernel_rfl) trivial ?_
  simp only [Act.put, List.setIfInBounds_toArray, List.set_cons_succ, List.set_cons_zero]
  refine gsem 4 (some 150) (.pointer (some ⟨S.P, 0, none⟩)) rfl (by kernel_rfl) (by kernel_rfl) (by kernel_rfl) (fun _ _ _ h => h) (by kernel_rfl) (by kernel_rfl) (fun _ _ => by kernel_rfl) trivial ?_
  simp only [Act.put, List.setIfInBounds_toArray, List.set_cons_succ, List.set_cons_zero]
  refine wpAnyH_ready (rs := [2]) (by kernel_rfl) (by simp) (gcallR 2 (some 148) rfl (by kernel_rfl) (by kernel_rfl) (by kernel_rfl) (clone24 S.T0 w1.drew (unhide HS).bs.t0.drew (by have := (unhide HS).last.1; omega)) ?_ AllReadyH.nil)
  rintro _ w2 ⟨C, rfl, hC, hCl, hCn, hCb, hb2⟩
  refine ⟨_, rfl, trivial, ?_⟩
  simp only [Act.put, List.setIfInBounds_toArray, List.set_cons_succ, List.set_cons_zero]
  refine gsem 5 (some 151) (.pointer (some ⟨S.P, 1, none⟩)) rfl (by kernel_rfl) (by kernel_rfl) (by kernel_rfl) (fun _ _ _ h => h) (by kernel_rfl) (by kernel_rfl) (fun _ _ => by kernel_rfl) trivial ?_
  simp only [Act.put, List.setIfInBounds_toArray, List.set_cons_succ, List.set_cons_zero]
  have hP2 : Holds w2 S.P [.pointer (some ⟨S.T0.t, 0, none⟩), .pointer (some ⟨S.T1.t, 0, none⟩), .pointer (some ⟨S.R0.t, 0, none⟩), .pointer (some ⟨S.R1.t, 0, none⟩), .int .i64 S.left] := ((unhide HP).block (W1 := w1.drew) rfl).block (hb2.block _ ((unhide HP).lt (by simp [PS.cs, pairCs])))
  have hPl : S.P < w1.heap.size := (unhide HP).lt (by simp [PS.cs, pairCs])
  have hCC : ∀ b ∈ C.blocks, w1.heap.size ≤ b ∧ b < w2.heap.size := fun b hb => ⟨hCb b hb, hC.lt b hb⟩
  refine wpAnyH_ready (rs := [6]) (by kernel_rfl) (by simp) (gskp 6 none rfl (by kernel_rfl) (by kernel_rfl) (ex_store (t := 26) (vs := [.pointer (some ⟨C.t, 0, none⟩)]) rfl rfl rfl rfl (by simp [Value.oneCell']) siz26 hP2 (by simp)) trivial ?_ AllReadyH.nil)
  have hf3 : Fr w1 (w2.setCells S.P 1 [.pointer (some ⟨C.t, 0, none⟩)]) [S.P] := (Fr.of_below (below_dr (Below.refl w1.heap.size w1)) [S.P]).trans ((Fr.of_below hb2 [S.P]).trans (Fr.setCells _ _ _ _) (fun b hb => .inl hb)) (fun b hb => .inl hb)
  have hP3 : Holds (w2.setCells S.P 1 [.pointer (some ⟨C.t, 0, none⟩)]) S.P [.pointer (some ⟨S.T0.t, 0, none⟩), .pointer (some ⟨C.t, 0, none⟩), .pointer (some ⟨S.R0.t, 0, none⟩), .pointer (some ⟨S.R1.t, 0, none⟩), .int .i64 S.left] := hP2.put 1 [.pointer (some ⟨C.t, 0, none⟩)] (by simp)
  have hC3 : C.Is (w2.setCells S.P 1 [.pointer (some ⟨C.t, 0, none⟩)]) := hC.fr (Fr.setCells _ _ _ _) (fun b hb hm => by obtain rfl : b = S.P := (by simpa using hm); have := (hCC _ hb).1; omega)
  have hz3 : (w2.setCells S.P 1 [.pointer (some ⟨C.t, 0, none⟩)]).heap.size = w2.heap.size := size_setCells _ _ _
  generalize w2.setCells S.P 1 [.pointer (some ⟨C.t, 0, none⟩)] = w3 at *
  simp only [Act.put, List.setIfInBounds_toArray, List.set_cons_succ, List.set_cons_zero]
  refine wpAnyH_done (by kernel_rfl) ?_ _
  try simp only [Act.put, List.setIfInBounds_toArray, List.set_cons_succ, List.set_cons_zero]
  have H3 := hide (And.intro hP3 (And.intro hC3 (And.intro hf3 (And.intro hz3 (And.intro hCC (And.intro hCl (And.intro hCn hb2.size)))))))
  clear hP2 hP3 hC3 hf3 hz3 hCC hCl hCn hC hCb hb2
  go_wp2
  refine wp_region_held_drew (P := Tryz.prog) (S := fun _ => True) (by kernel_rfl) trivial (fun hS0 => ?_)
  refine gsem 0 (some 152) (.pointer (some ⟨S.P, 0, none⟩)) rfl (by kernel_rfl) (by kernel_rfl) (by kernel_rfl) (fun _ _ _ h => h) (by kernel_rfl) (by kernel_rfl) (fun _ _ => by kernel_rfl) trivial ?_
  simp only [Act.put, List.setIfInBounds_toArray, List.set_cons_succ, List.set_cons_zero]
  refine gsem 1 (some 153) (.pointer (some ⟨S.R0.t, 0, none⟩)) rfl (by kernel_rfl) (by kernel_rfl) (by kernel_rfl) (fun _ _ _ h => h) (by kernel_rfl) (by kernel_rfl) (fun _ _ => by kernel_rfl) trivial ?_
  simp only [Act.put, List.setIfInBounds_toArray, List.set_cons_succ, List.set_cons_zero]
  refine gsem 3 (some 155) (.pointer (some ⟨S.P, 0, none⟩)) rfl (by kernel_rfl) (by kernel_rfl) (by kernel_rfl) (fun _ _ _ h => h) (by kernel_rfl) (by kernel_rfl) (fun _ _ => by kernel_rfl) trivial ?_
  simp only [Act.put, List.setIfInBounds_toArray, List.set_cons_succ, List.set_cons_zero]
  refine gsem 4 (some 156) (.pointer (some ⟨S.P, 2, none⟩)) rfl (by kernel_rfl) (by kernel_rfl) (by kernel_rfl) (fun _ _ _ h => h) (by kernel_rfl) (by kernel_rfl) (fun _ _ => by kernel_rfl) trivial ?_
  simp only [Act.put, List.setIfInBounds_toArray, List.set_cons_succ, List.set_cons_zero]
  refine wpAnyH_ready (rs := [2]) (by kernel_rfl) (by simp) (gcallR 2 (some 154) rfl (by kernel_rfl) (by kernel_rfl) (by kernel_rfl) (refClone25 S.R0 w3.drew (((unhide HS).bs.r0.fr (unhide H3).2.2.1 (fun b hb hm => by obtain rfl : b = S.P := (by simpa using hm); exact (unhide HS).bs.d 0 3 _ _ rfl rfl (by omega) S.P (by simp) hb)).drew) (by have := (unhide HS).es0; omega)) ?_ AllReadyH.nil)
  rintro _ w4 ⟨R', rfl, hR, hRe, hRn, hRb, hb4⟩
  refine ⟨_, rfl, trivial, ?_⟩
  simp only [Act.put, List.setIfInBounds_toArray, List.set_cons_succ, List.set_cons_zero]
  refine gsem 5 (some 157) (.pointer (some ⟨S.P, 3, none⟩)) rfl (by kernel_rfl) (by kernel_rfl) (by kernel_rfl) (fun _ _ _ h => h) (by kernel_rfl) (by kernel_rfl) (fun _ _ => by kernel_rfl) trivial ?_
  simp only [Act.put, List.setIfInBounds_toArray, List.set_cons_succ, List.set_cons_zero]
  obtain ⟨hP3, hC3, hf3, hz3, hCC, hCl, hCn, hz2⟩ := unhide H3
  have hz1 := (unhide HB1).size
  have hdz : w1.drew.heap.size = w1.heap.size := rfl
  have hP4 : Holds w4 S.P [.pointer (some ⟨S.T0.t, 0, none⟩), .pointer (some ⟨C.t, 0, none⟩), .pointer (some ⟨S.R0.t, 0, none⟩), .pointer (some ⟨S.R1.t, 0, none⟩), .int .i64 S.left] := (hP3.block (W1 := w3.drew) rfl).block (hb4.block _ (hP3.lt (by simp)))
  have hC4 : C.Is w4 := hC3.drew.on hb4
  refine wpAnyH_ready (rs := [6]) (by kernel_rfl) (by simp) (gskp 6 none rfl (by kernel_rfl) (by kernel_rfl) (ex_store (t := 28) (vs := [.pointer (some ⟨R'.t, 0, none⟩)]) rfl rfl rfl rfl (by simp [Value.oneCell']) siz28 hP4 (by simp)) trivial ?_ AllReadyH.nil)
  have hs4 : w3.heap.size ≤ w4.heap.size := hb4.size
  have hR4 : ∀ b ∈ R'.blocks, w3.heap.size ≤ b := hRb
  have hf5 : Fr w1 (w4.setCells S.P 3 [.pointer (some ⟨R'.t, 0, none⟩)]) [S.P] := hf3.trans ((Fr.of_below (below_dr (Below.refl w3.heap.size w3)) [S.P]).trans ((Fr.of_below hb4 [S.P]).trans (Fr.setCells _ _ _ _) (fun b hb => .inl hb)) (fun b hb => .inl hb)) (fun b hb => .inl hb)
  have hP5 : Holds (w4.setCells S.P 3 [.pointer (some ⟨R'.t, 0, none⟩)]) S.P [.pointer (some ⟨S.T0.t, 0, none⟩), .pointer (some ⟨C.t, 0, none⟩), .pointer (some ⟨S.R0.t, 0, none⟩), .pointer (some ⟨R'.t, 0, none⟩), .int .i64 S.left] := hP4.put 3 [.pointer (some ⟨R'.t, 0, none⟩)] (by simp)
  have hC5 : C.Is (w4.setCells S.P 3 [.pointer (some ⟨R'.t, 0, none⟩)]) := hC4.fr (Fr.setCells _ _ _ _) (fun b hb hm => by obtain rfl : b = S.P := (by simpa using hm); have := (hCC _ hb).1; omega)
  have hR5 : R'.Is (w4.setCells S.P 3 [.pointer (some ⟨R'.t, 0, none⟩)]) := hR.fr (Fr.setCells _ _ _ _) (fun b hb hm => by obtain rfl : b = S.P := (by simpa using hm); have := hR4 _ hb; omega)
  have FIN := (unhide HS).cloned (m := w2.heap.size) hf5 hC5 hR5 hCC (fun b hb => by have := hR4 b hb; omega) hz2 hCl hCn hRe hRn hP5
  generalize w4.setCells S.P 3 [.pointer (some ⟨R'.t, 0, none⟩)] = w5 at *
  simp only [Act.put, List.setIfInBounds_toArray, List.set_cons_succ, List.set_cons_zero]
  refine wpAnyH_done (by kernel_rfl) ?_ _
  try simp only [Act.put, List.setIfInBounds_toArray, List.set_cons_succ, List.set_cons_zero]
  have HF := hide FIN
  have HP5 := hide hP5
  clear FIN hP5 hR5 hC5 hf5 hR4 hs4 hC4 hP4 hP3 hC3 hf3 hz3 hCC hCl hCn hz2 hR hRe hRn hRb hb4 H3 hz1 hdz
  go_wp2_with (first | go_skip | (refine rd (by rfl) (ex_load1 26 Tryz.isAgg26 rfl rfl (unhide HP5) rfl) ?_; simp only [Act.put, List.setIfInBounds_toArray, List.set_cons_succ, List.set_cons_zero]))
  obtain ⟨hS5, hW5⟩ := unhide HF
  have hWw := (Went.refl S (unhide HB1)).trans hW5
  have hbb : Below base w w5 := hWw.below (unhide HS).bs (unhide HBZ)
  refine (tells9_1 C R' S.P S.T0.t S.R0.t S.left w5 (unhide HP5) hS5.bs.t1 hS5.bs.r1 hS5.rel1 (by have := hS5.last.2; simp only at this; omega) (by have := hS5.live1; simp only at this; omega) ((unhide HU) _ hbb) ((unhide HPf) _ hbb)).mono ?_
  rintro _ w6 ⟨rfl, hb6⟩
  have FIN := hide (And.intro (hS5.on hb6) (hWw.trans (Went.refl _ hb6)))
  clear hS5 hW5 hWw hbb hb6 HF
  go_wp2
  go_ret
  exact ⟨rfl, _, (unhide FIN).1, (unhide FIN).2⟩
end Go.Proofs.YtpbdidnphkkenaaGreatDoor

/-! Nj -/
namespace Go.Proofs.YtpbdidnphkkenaaGreatDoor
open Go Go.Proofs Go.Maps Go.RowKit
set_option linter.unusedSimpArgs false
set_option linter.unusedVariables false
set_option maxHeartbeats 1000000
theorem ex_build41a {o : Oper} {a : Act} {w : World} {c x y : Operand} {k : KK} {d : DD} (ho : o.op = .build 41 #[(0, c), (1, x), (2, y)]) (hc : a.eval c = .int .i64 1) (hx : a.eval x = .agg k.cs.toArray) (hy : a.eval y = .agg d.cs.toArray) : (execOp a.eval o).run Tryz.prog w = .ok (.value (actV 1 k d 0 (.slice none 0 0))) w := by
  have e : (Instr.build 41 #[(0, .int .i64 1), (1, .agg k.cs.toArray), (2, .agg d.cs.toArray)]).run Tryz.prog w = .ok (actV 1 k d 0 (.slice none 0 0)) w := by kernel_rfl
  unfold execOp
  simp only [ho, List.map_toArray, List.map_cons, List.map_nil, hc, hx, hy]
  simp [e]
theorem ex_build41b {o : Oper} {a : Act} {w : World} {c x : Operand} {k : KK} (z : Int) (ho : o.op = .build 41 #[(0, c), (1, x)]) (hc : a.eval c = .int .i64 z) (hx : a.eval x = .agg k.cs.toArray) : (execOp a.eval o).run Tryz.prog w = .ok (.value (actV z k zeroD 0 (.slice none 0 0))) w := by
  have e : (Instr.build 41 #[(0, .int .i64 z), (1, .agg k.cs.toArray)]).run Tryz.prog w = .ok (actV z k zeroD 0 (.slice none 0 0)) w := by kernel_rfl
  unfold execOp
  simp only [ho, List.map_toArray, List.map_cons, List.map_nil, hc, hx]
  simp [e]
theorem Rel.nil {T : TT} {R : RT} (h1 : T.rows = []) (h2 : R.es = []) : Rel T R := by
  unfold Rel TT.live
  rw [h1, h2]
  rfl
theorem newPair (w : World) (h4 : 4 ≤ w.heap.size) : Calls Tryz.prog 7 #[] w fun e w' => ∃ S : PS, e = .returned (.pointer (some ⟨S.P, 0, none⟩)) ∧ S.Is w' w.heap.size 0 ∧ S.left = 4000 ∧ Below w.heap.size w w' := by
  refine (newPair7 w).mono ?_
  rintro e w' ⟨T0, T1, R0, R1, P, rfl, hP, hT0, hT1, hR0, hR1, e0, e1, l0, l1, s0, s1, n0, n1, d0, d1, d2, d3, hPb, hb⟩
  refine ⟨⟨P, T0, T1, R0, R1, 4000⟩, rfl, ⟨⟨hP, hT0, hT1, hR0, hR1, ?_, ?_, h4, hb.size⟩, Rel.nil e0 s0, Rel.nil e1 s1, ⟨Nat.le_of_eq l0, Nat.le_of_eq l1⟩, ⟨Int.le_of_eq n0.symm, Int.le_of_eq n0, Int.le_of_eq n1.symm, Int.le_of_eq n1⟩⟩, rfl, hb⟩
  · unfold PS.parts
    refine List.pairwise_cons.2 ⟨?_, List.pairwise_cons.2 ⟨?_, List.pairwise_cons.2 ⟨?_, List.pairwise_cons.2 ⟨?_, List.pairwise_cons.2 ⟨?_, List.Pairwise.nil⟩⟩⟩⟩⟩
    · intro B hB x hx hx'
      obtain rfl : x = P := by simpa using hx
      simp only [List.mem_cons, List.not_mem_nil, or_false] at hB
      rcases hB with rfl | rfl | rfl | rfl
      · exact (d0 x hx').2.2.2.2 rfl
      · exact (d1 x hx').2.2.2 rfl
      · exact (d2 x hx').2.2 rfl
      · exact (d3 x hx').2 rfl
    · intro B hB x hx hx'
      simp only [List.mem_cons, List.not_mem_nil, or_false] at hB
      rcases hB with rfl | rfl | rfl
      · exact (d0 x hx).2.1 hx'
      · exact (d0 x hx).2.2.1 hx'
      · exact (d0 x hx).2.2.2.1 hx'
    · intro B hB x hx hx'
      simp only [List.mem_cons, List.not_mem_nil, or_false] at hB
      rcases hB with rfl | rfl
      · exact (d1 x hx).2.1 hx'
      · exact (d1 x hx).2.2.1 hx'
    · intro B hB x hx hx'
      obtain rfl : B = R1.blocks := by simpa using hB
      exact (d2 x hx).2.1 hx'
    · intro B hB
      cases hB
  · intro B hB b hbB
    simp only [PS.parts, List.mem_cons, List.not_mem_nil, or_false] at hB
    rcases hB with rfl | rfl | rfl | rfl | rfl
    · obtain rfl : b = P := by simpa using hbB
      exact hPb
    · exact (d0 b hbB).1
    · exact (d1 b hbB).1
    · exact (d2 b hbB).1
    · exact (d3 b hbB).1
set_option maxRecDepth 100000 in
theorem law_keeps (k : KK) (d : DD) (o : KK) (w : World) (hU : Lib.Utf8Tabs 2 3 w) (hP : TabP w) (hk : OkK k) (ho : OkK o) : Calls Tryz.prog 5 #[k.agg, d.agg, o.agg] w fun e w' => e = .returned (.bool true) ∧ Below w.heap.size w w' := by
  have HK := hide (And.intro hk ho)
  have HU : Hid (∀ X, Below w.heap.size w X → Lib.Utf8Tabs 2 3 X ∧ TabP X) := hide (fun X hX => ⟨tabs_fr hU (Fr.of_below hX []) (by simp), hP.on hX⟩)
  have H4 : Hid (∀ X, Below w.heap.size w X → 4 ≤ X.heap.size) := hide (fun X hX => by have := tabs_size hU; have := hX.size; omega)
  have LL : Hid (Hq w w [] []) := hide (Hq.nil w [])
  have HB : Hid (Below w.heap.size w w) := hide (Below.refl _ _)
  clear hU hP hk ho
  rw [show k.agg = .agg k.cs.toArray from rfl, show d.agg = .agg d.cs.toArray from rfl, show o.agg = .agg o.cs.toArray from rfl]
  go_enter Tryz.func5, Tryz.ntmps5
  go_wp2_with (first | go_skip | (refine bx 33 k.cs (by rfl) rfl rfl rfl (Nat.succ_pos _) (unhide LL) ?_; intro w1 B hB L1 hb1; replace LL := hide L1; replace HB := hide ((unhide HB).trans (hb1.mono (unhide HB).size)); clear hB L1 hb1; simp only [Act.put, List.setIfInBounds_toArray, List.set_cons_succ, List.set_cons_zero]) | (refine bx 39 d.cs (by rfl) rfl rfl rfl (Nat.succ_pos _) (unhide LL) ?_; intro w1 B hB L1 hb1; replace LL := hide L1; replace HB := hide ((unhide HB).trans (hb1.mono (unhide HB).size)); clear hB L1 hb1; simp only [Act.put, List.setIfInBounds_toArray, List.set_cons_succ, List.set_cons_zero]) | (refine bx 33 o.cs (by rfl) rfl rfl rfl (Nat.succ_pos _) (unhide LL) ?_; intro w1 B hB L1 hb1; replace LL := hide L1; replace HB := hide ((unhide HB).trans (hb1.mono (unhide HB).size)); clear hB L1 hb1; simp only [Act.put, List.setIfInBounds_toArray, List.set_cons_succ, List.set_cons_zero]))
  refine (newPair w1 ((unhide H4) w1 (unhide HB))).mono ?_
  rintro _ w2 ⟨S, rfl, hS, -, hb2⟩
  have HLT := hide (unhide LL).lt
  have HZ : Hid (w.heap.size ≤ w1.heap.size) := hide (unhide HB).size
  replace LL := hide ((unhide LL).on hb2)
  replace HB := hide ((unhide HB).trans (hb2.mono (unhide HB).size))
  have HS := hide hS
  have HP := hide hS.bs.hold
  clear hS hb2
  go_wp2_with (first | go_skip | (refine rd (by rfl) (ex_load1 26 Tryz.isAgg26 rfl rfl (unhide HP) rfl) ?_; simp only [Act.put, List.setIfInBounds_toArray, List.set_cons_succ, List.set_cons_zero]) | (refine rd (by rfl) (ex_loadN (vs := k.cs) 33 2 row33x siz33 rfl rfl ((unhide LL).get 0 rfl) rfl rfl) ?_; simp only [Act.put, List.setIfInBounds_toArray, List.set_cons_succ, List.set_cons_zero]) | (refine rd (by rfl) (ex_loadN (vs := d.cs) 39 18 row39 siz39 rfl rfl ((unhide LL).get 1 rfl) rfl rfl) ?_; simp only [Act.put, List.setIfInBounds_toArray, List.set_cons_succ, List.set_cons_zero]) | (refine rd (by rfl) (ex_loadN (vs := o.cs) 33 2 row33x siz33 rfl rfl ((unhide LL).get 2 rfl) rfl rfl) ?_; simp only [Act.put, List.setIfInBounds_toArray, List.set_cons_succ, List.set_cons_zero]) | (refine rd (by rfl) (ex_build41a (k := k) (d := d) rfl rfl rfl rfl) ?_; simp only [Act.put, List.setIfInBounds_toArray, List.set_cons_succ, List.set_cons_zero]) | (refine rd (by rfl) (ex_build41b (k := o) 1 rfl rfl rfl) ?_; simp only [Act.put, List.setIfInBounds_toArray, List.set_cons_succ, List.set_cons_zero]) | (refine rd (by rfl) (ex_build41b (k := k) 5 rfl rfl rfl) ?_; simp only [Act.put, List.setIfInBounds_toArray, List.set_cons_succ, List.set_cons_zero]) | (refine rd (by rfl) (ex_build41b (k := o) 5 rfl rfl rfl) ?_; simp only [Act.put, List.setIfInBounds_toArray, List.set_cons_succ, List.set_cons_zero]))
  refine (play_put S k d 0 (.slice none 0 0) 0 w2 w1.heap.size 0 (unhide HS) (by omega) ((unhide HU) _ (unhide HB)).1 (unhide HK).1).mono ?_
  rintro _ w3 ⟨rfl, S3, hSn, hwn⟩
  have HE3 : Hid (S3.P = S.P) := hide (hwn.P.trans rfl)
  replace LL := hide ((unhide LL).step hwn.fr (fun b hb => Or.inr (by obtain ⟨C, hC, hbC⟩ := List.mem_flatten.1 hb; have h1 := (unhide HS).bs.low C hC b hbC; have h2 := unhide HZ; omega)) (fun q hq hm => by obtain ⟨C, hC, hbC⟩ := List.mem_flatten.1 hm; have h1 := (unhide HS).bs.low C hC q.1 hbC; have h2 := (unhide HLT) q hq; omega))
  have HB3 : Hid (Below w.heap.size w w3) := hide ((unhide HB).trans ((hwn.below (unhide HS).bs (unhide HS).bs.size).mono (unhide HZ)))
  replace HB := HB3
  replace HS := hide hSn
  clear hSn hwn HB3
  have C4 := hide (play_put S3 o zeroD 0 (.slice none 0 0) 0 w3 w1.heap.size 1 (unhide HS) (by omega) ((unhide HU) _ (unhide HB)).1 (unhide HK).2)
  rw [unhide HE3] at C4
  go_wp2_with (first | go_skip | (refine rd (by rfl) (ex_load1 26 Tryz.isAgg26 rfl rfl (unhide HP) rfl) ?_; simp only [Act.put, List.setIfInBounds_toArray, List.set_cons_succ, List.set_cons_zero]) | (refine rd (by rfl) (ex_loadN (vs := k.cs) 33 2 row33x siz33 rfl rfl ((unhide LL).get 0 rfl) rfl rfl) ?_; simp only [Act.put, List.setIfInBounds_toArray, List.set_cons_succ, List.set_cons_zero]) | (refine rd (by rfl) (ex_loadN (vs := d.cs) 39 18 row39 siz39 rfl rfl ((unhide LL).get 1 rfl) rfl rfl) ?_; simp only [Act.put, List.setIfInBounds_toArray, List.set_cons_succ, List.set_cons_zero]) | (refine rd (by rfl) (ex_loadN (vs := o.cs) 33 2 row33x siz33 rfl rfl ((unhide LL).get 2 rfl) rfl rfl) ?_; simp only [Act.put, List.setIfInBounds_toArray, List.set_cons_succ, List.set_cons_zero]) | (refine rd (by rfl) (ex_build41a (k := k) (d := d) rfl rfl rfl rfl) ?_; simp only [Act.put, List.setIfInBounds_toArray, List.set_cons_succ, List.set_cons_zero]) | (refine rd (by rfl) (ex_build41b (k := o) 1 rfl rfl rfl) ?_; simp only [Act.put, List.setIfInBounds_toArray, List.set_cons_succ, List.set_cons_zero]) | (refine rd (by rfl) (ex_build41b (k := k) 5 rfl rfl rfl) ?_; simp only [Act.put, List.setIfInBounds_toArray, List.set_cons_succ, List.set_cons_zero]) | (refine rd (by rfl) (ex_build41b (k := o) 5 rfl rfl rfl) ?_; simp only [Act.put, List.setIfInBounds_toArray, List.set_cons_succ, List.set_cons_zero]))
  refine (unhide C4).mono ?_
  clear C4
  rintro _ w4 ⟨rfl, S4, hSn, hwn⟩
  have HE4 : Hid (S4.P = S.P) := hide (hwn.P.trans (unhide HE3))
  replace LL := hide ((unhide LL).step hwn.fr (fun b hb => Or.inr (by obtain ⟨C, hC, hbC⟩ := List.mem_flatten.1 hb; have h1 := (unhide HS).bs.low C hC b hbC; have h2 := unhide HZ; omega)) (fun q hq hm => by obtain ⟨C, hC, hbC⟩ := List.mem_flatten.1 hm; have h1 := (unhide HS).bs.low C hC q.1 hbC; have h2 := (unhide HLT) q hq; omega))
  have HB4 : Hid (Below w.heap.size w w4) := hide ((unhide HB).trans ((hwn.below (unhide HS).bs (unhide HS).bs.size).mono (unhide HZ)))
  replace HB := HB4
  replace HS := hide hSn
  clear hSn hwn HB4
  have C5 := hide (play_get S4 k zeroD 0 (.slice none 0 0) 0 w4 w1.heap.size 2 (unhide HS) (by omega) (unhide HK).1)
  rw [unhide HE4] at C5
  go_wp2_with (first | go_skip | (refine rd (by rfl) (ex_load1 26 Tryz.isAgg26 rfl rfl (unhide HP) rfl) ?_; simp only [Act.put, List.setIfInBounds_toArray, List.set_cons_succ, List.set_cons_zero]) | (refine rd (by rfl) (ex_loadN (vs := k.cs) 33 2 row33x siz33 rfl rfl ((unhide LL).get 0 rfl) rfl rfl) ?_; simp only [Act.put, List.setIfInBounds_toArray, List.set_cons_succ, List.set_cons_zero]) | (refine rd (by rfl) (ex_loadN (vs := d.cs) 39 18 row39 siz39 rfl rfl ((unhide LL).get 1 rfl) rfl rfl) ?_; simp only [Act.put, List.setIfInBounds_toArray, List.set_cons_succ, List.set_cons_zero]) | (refine rd (by rfl) (ex_loadN (vs := o.cs) 33 2 row33x siz33 rfl rfl ((unhide LL).get 2 rfl) rfl rfl) ?_; simp only [Act.put, List.setIfInBounds_toArray, List.set_cons_succ, List.set_cons_zero]) | (refine rd (by rfl) (ex_build41a (k := k) (d := d) rfl rfl rfl rfl) ?_; simp only [Act.put, List.setIfInBounds_toArray, List.set_cons_succ, List.set_cons_zero]) | (refine rd (by rfl) (ex_build41b (k := o) 1 rfl rfl rfl) ?_; simp only [Act.put, List.setIfInBounds_toArray, List.set_cons_succ, List.set_cons_zero]) | (refine rd (by rfl) (ex_build41b (k := k) 5 rfl rfl rfl) ?_; simp only [Act.put, List.setIfInBounds_toArray, List.set_cons_succ, List.set_cons_zero]) | (refine rd (by rfl) (ex_build41b (k := o) 5 rfl rfl rfl) ?_; simp only [Act.put, List.setIfInBounds_toArray, List.set_cons_succ, List.set_cons_zero]))
  refine (unhide C5).mono ?_
  clear C5
  rintro _ w5 ⟨rfl, hb⟩
  replace LL := hide ((unhide LL).on hb)
  replace HB := hide ((unhide HB).trans (hb.mono (unhide HB).size))
  replace HS := hide ((unhide HS).on hb)
  clear hb
  have C6 := hide (play_get S4 o zeroD 0 (.slice none 0 0) 0 w5 w1.heap.size 2 (unhide HS) (by omega) (unhide HK).2)
  rw [unhide HE4] at C6
  go_wp2_with (first | go_skip | (refine rd (by rfl) (ex_load1 26 Tryz.isAgg26 rfl rfl (unhide HP) rfl) ?_; simp only [Act.put, List.setIfInBounds_toArray, List.set_cons_succ, List.set_cons_zero]) | (refine rd (by rfl) (ex_loadN (vs := k.cs) 33 2 row33x siz33 rfl rfl ((unhide LL).get 0 rfl) rfl rfl) ?_; simp only [Act.put, List.setIfInBounds_toArray, List.set_cons_succ, List.set_cons_zero]) | (refine rd (by rfl) (ex_loadN (vs := d.cs) 39 18 row39 siz39 rfl rfl ((unhide LL).get 1 rfl) rfl rfl) ?_; simp only [Act.put, List.setIfInBounds_toArray, List.set_cons_succ, List.set_cons_zero]) | (refine rd (by rfl) (ex_loadN (vs := o.cs) 33 2 row33x siz33 rfl rfl ((unhide LL).get 2 rfl) rfl rfl) ?_; simp only [Act.put, List.setIfInBounds_toArray, List.set_cons_succ, List.set_cons_zero]) | (refine rd (by rfl) (ex_build41a (k := k) (d := d) rfl rfl rfl rfl) ?_; simp only [Act.put, List.setIfInBounds_toArray, List.set_cons_succ, List.set_cons_zero]) | (refine rd (by rfl) (ex_build41b (k := o) 1 rfl rfl rfl) ?_; simp only [Act.put, List.setIfInBounds_toArray, List.set_cons_succ, List.set_cons_zero]) | (refine rd (by rfl) (ex_build41b (k := k) 5 rfl rfl rfl) ?_; simp only [Act.put, List.setIfInBounds_toArray, List.set_cons_succ, List.set_cons_zero]) | (refine rd (by rfl) (ex_build41b (k := o) 5 rfl rfl rfl) ?_; simp only [Act.put, List.setIfInBounds_toArray, List.set_cons_succ, List.set_cons_zero]))
  refine (unhide C6).mono ?_
  clear C6
  rintro _ w6 ⟨rfl, hb⟩
  replace LL := hide ((unhide LL).on hb)
  replace HB := hide ((unhide HB).trans (hb.mono (unhide HB).size))
  replace HS := hide ((unhide HS).on hb)
  clear hb
  have C7 := hide (tells9_0 S4.T0 S4.R0 S4.P S4.T1.t S4.R1.t S4.left w6 (unhide HS).bs.hold (unhide HS).bs.t0 (unhide HS).bs.r0 (unhide HS).rel0 (by have := (unhide HS).last.1; omega) (by have := (unhide HS).live0; omega) ((unhide HU) _ (unhide HB)).1 ((unhide HU) _ (unhide HB)).2)
  rw [unhide HE4] at C7
  go_wp2_with fail
  refine (unhide C7).mono ?_
  clear C7
  rintro _ w7 ⟨rfl, hb⟩
  replace HB := hide ((unhide HB).trans (hb.mono (unhide HB).size))
  clear hb
  go_wp2
  go_ret
  exact ⟨rfl, unhide HB⟩
end Go.Proofs.YtpbdidnphkkenaaGreatDoor

/-! Pi -/
namespace Go.Proofs.YtpbdidnphkkenaaGreatDoor
open Go Go.Proofs Go.Maps Go.RowKit
set_option linter.unusedSimpArgs false
set_option linter.unusedVariables false
set_option maxHeartbeats 1000000
structure AA where
  kd : Int
  k : KK
  d : DD
  n : Int
  inner : Value
def AA.cs (x : AA) : List Value := actCs x.kd x.k x.d x.n x.inner
/-- A list of acts, as it is read. -/
def ReadsA (w : World) (v : Value) (l : List AA) : Prop := (∃ A c, v = .slice A 0 c ∧ l = []) ∨ ∃ b off cap, v = .slice (some ⟨b, off, none⟩) l.length cap ∧ b < w.heap.size ∧ ∀ j, (h : j < l.length) → w.rangeAt b (off + j * 23) l[j].cs
theorem play_any (S : PS) (x : AA) (w : World) (base N : Nat) (hS : S.Is w base N) (hN : N < 3000) (hU : ∀ X, Below base w X → Lib.Utf8Tabs 2 3 X) (hP : ∀ X, Below base w X → TabP X) (hk : OkK x.k) (h9 : x.kd ≠ 9) : Calls Tryz.prog 8 #[.pointer (some ⟨S.P, 0, none⟩), .agg x.cs.toArray, .int .i64 0] w fun e w' => e = .returned (.bool true) ∧ ∃ S', S'.Is w' base (N + 1) ∧ Went S S' w w' := by
  obtain ⟨kd, k, d, n, inner⟩ := x
  have hU0 := hU w (Below.refl _ _)
  have hP0 := hP w (Below.refl _ _)
  show Calls Tryz.prog 8 #[.pointer (some ⟨S.P, 0, none⟩), actV kd k d n inner, .int .i64 0] w _
  simp only at hk h9
  by_cases h1 : kd = 1
  · subst h1
    exact play_put S k d n inner 0 w base N hS hN hU0 hk
  by_cases h2 : kd = 2
  · subst h2
    exact play_delete S k d n inner 0 w base N hS hN hk
  by_cases h3 : kd = 3
  · subst h3
    exact play_clear S k d n inner 0 w base N hS hN
  by_cases h4 : kd = 4
  · subst h4
    exact play_compact S k d n inner 0 w base N hS hN
  by_cases h5 : kd = 5
  · subst h5
    refine (play_get S k d n inner 0 w base N hS hN hk).mono ?_
    rintro e w' ⟨rfl, hb⟩
    exact ⟨rfl, S, (hS.on hb).mono (Nat.le_succ _), Went.refl S hb⟩
  by_cases h6 : kd = 6
  · subst h6
    by_cases hn : n < 0 ∨ (S.T0.live.length : Int) ≤ n
    · exact play_at_out S k d inner 0 w base N hS hN n hn
    · obtain ⟨j, rfl⟩ : ∃ j : Nat, n = (j : Int) := ⟨n.toNat, by omega⟩
      exact play_at_in S k d inner 0 w base N hS hN j (by omega)
  by_cases h7 : kd = 7
  · subst h7
    exact play_tell S k d n inner 0 w base N hS hN hU0 hP0
  by_cases h8 : kd = 8
  · subst h8
    exact play_clone S k d n inner 0 w base N hS hN hU hP
  by_cases h10 : kd = 10
  · subst h10
    exact play_swap S k d n inner 0 w base N hS hN
  exact play_other kd S k d n inner 0 w base N hS hN h1 h2 h3 h4 h5 h6 h7 h8 h9 h10
theorem few6 (A : Option Addr) (n c : Nat) (w : World) : Calls Tryz.prog 6 #[.slice A n c] w fun e w' => e = .returned (.bool (decide ((n : Int) ≤ 400))) ∧ w' = w := by
  go_enter Tryz.func6, Tryz.ntmps6
  go_wp2
  go_ret
  exact ⟨rfl, rfl⟩
theorem index22 (g off n cap j : Nat) (hj : j < n) (w : World) : (Instr.indexAt 22 (.slice (some ⟨g, off, none⟩) n cap) (.int .i64 j)).run Tryz.prog w = .ok (.pointer (some ⟨g, off + j * 23, none⟩)) w := by
  rw [run_indexAt_slice (h := by kernel_rfl), if_pos ⟨by omega, by omega⟩]
  have e : (sizeOf (Tryz.prog.elem 22)).run Tryz.prog w = .ok 23 w := by kernel_rfl
  rw [e]
  have e2 : (Addr.add ⟨g, off, none⟩ ((j : Int).toNat * 23)) = ⟨g, off + j * 23, none⟩ := by
    rw [Addr.add_mid]
    simp
  show Result.ok (Value.pointer (some (Addr.add ⟨g, off, none⟩ ((j : Int).toNat * 23)))) w = _
  rw [e2]
theorem ex_index22 {o : Oper} {a : Act} {w : World} {x ix : Operand} {g off n cap : Nat} (j : Nat) (ho : o.op = .indexAddr 22 x ix) (hx : a.eval x = .slice (some ⟨g, off, none⟩) n cap) (hix : a.eval ix = .int .i64 j) (hj : j < n) : (execOp a.eval o).run Tryz.prog w = .ok (.value (.pointer (some ⟨g, off + j * 23, none⟩))) w := by
  unfold execOp
  simp only [ho, hx, hix]
  have := index22 g off n cap j hj w
  simp [this]
theorem tell_all (S : PS) (w : World) (base N : Nat) (hS : S.Is w base N) (hN : N < 3000) (hU : Lib.Utf8Tabs 2 3 w) (hP : TabP w) : Calls Tryz.prog 9 #[.pointer (some ⟨S.P, 0, none⟩), .int .i64 0] w fun e w' => e = .returned (.bool true) ∧ Below w.heap.size w w' :=
  tells9_0 S.T0 S.R0 S.P S.T1.t S.R1.t S.left w hS.bs.hold hS.bs.t0 hS.bs.r0 hS.rel0 (by have := hS.last.1; omega) (by have := hS.live0; omega) hU hP
theorem tell_all1 (S : PS) (w : World) (base N : Nat) (hS : S.Is w base N) (hN : N < 3000) (hU : Lib.Utf8Tabs 2 3 w) (hP : TabP w) : Calls Tryz.prog 9 #[.pointer (some ⟨S.P, 0, none⟩), .int .i64 1] w fun e w' => e = .returned (.bool true) ∧ Below w.heap.size w w' :=
  tells9_1 S.T1 S.R1 S.P S.T0.t S.R0.t S.left w hS.bs.hold hS.bs.t1 hS.bs.r1 hS.rel1 (by have := hS.last.2; omega) (by have := hS.live1; omega) hU hP
set_option maxRecDepth 100000 in
theorem law_exact (A : Option Addr) (cap : Nat) (l : List AA) (w : World) (hU : Lib.Utf8Tabs 2 3 w) (hP : TabP w) (hr : ReadsA w (.slice A l.length cap) l) (hk : ∀ x ∈ l, OkK x.k) : Calls Tryz.prog 3 #[.slice A l.length cap] w fun e w' => e = .returned (.bool true) ∧ Below w.heap.size w w' := by
  have HU : Hid (∀ X, Below w.heap.size w X → Lib.Utf8Tabs 2 3 X ∧ TabP X) := hide (fun X hX => ⟨tabs_fr hU (Fr.of_below hX []) (by simp), hP.on hX⟩)
  have h4 : 4 ≤ w.heap.size := by have := tabs_size hU; omega
  have HN := hide (newPair w h4)
  have HK := hide hk
  have HR := hide hr
  have C6 := hide (few6 A l.length cap w)
  obtain ⟨n, hn⟩ : ∃ n, n = l.length := ⟨_, rfl⟩
  have Hn := hide hn
  rw [← hn] at C6 ⊢
  clear hU hP hr hk hn h4
  by_cases hf : n ≤ 400
  · rw [show decide ((n : Int) ≤ 400) = true from decide_eq_true (by omega)] at C6
    go_enter Tryz.func3, Tryz.ntmps3
    go_wp2_with fail
    refine (unhide C6).mono ?_
    rintro _ x6 ⟨rfl, e6⟩
    rw [e6]
    clear e6 x6 C6
    go_wp2_with fail
    refine (unhide HN).mono ?_
    rintro _ w2 ⟨S, rfl, hS, -, hb2⟩
    have HP := hide hS.bs.hold
    have HS := hide (And.intro hS hb2)
    clear hS hb2 HN
    go_wp2_with (first | go_skip | ((with_reducible show wpList _ _ _ _ _ _); first | ((refine rd (by rfl) (ex_load1 26 Tryz.isAgg26 rfl rfl (unhide HP) rfl) ?_); simp only [Act.put, List.setIfInBounds_toArray, List.set_cons_succ, List.set_cons_zero])))
    go_loopg [4] n (fun gm s4 wr => ∃ (j : Nat) (S' : PS), s4 = .int .i64 j ∧ j ≤ n ∧ n - j ≤ gm ∧ Hid (S'.Is wr w.heap.size j ∧ S'.P = S.P ∧ Below w.heap.size w wr))
    case atStart => exact ⟨0, S, rfl, by omega, by omega, hide ⟨(unhide HS).1, rfl, (unhide HS).2⟩⟩
    case round =>
      obtain ⟨j, S', rfl, hj, hg, HV⟩ := hrel
      by_cases hjl : j < n
      · have hjz : (j : Int) < n := by omega
        have hjr : j < l.length := by have := unhide Hn; omega
        obtain ⟨g, off, rfl, hgl, hrg⟩ : ∃ g off, A = some ⟨g, off, none⟩ ∧ g < w.heap.size ∧ ∀ i, (h : i < l.length) → w.rangeAt g (off + i * 23) l[i].cs := by
          rcases unhide HR with ⟨A', c', h1, h2⟩ | ⟨b, off, c', h1, h2, h3⟩
          · rw [h2] at hjr; simp at hjr
          · injection h1 with h1 _ _
            exact ⟨b, off, h1, h2, h3⟩
        obtain ⟨x, hx⟩ : ∃ x, x = l[j] := ⟨_, rfl⟩
        have hrx : wr.rangeAt g (off + j * 23) x.cs := by
          rw [hx]
          exact rng_on (hrg j hjr) ((unhide HV).2.2.block g hgl)
        have HX := hide hrx
        have HKX := hide ((unhide HK) x (hx ▸ List.getElem_mem hjr))
        have HKD : Hid (wr.cell? ⟨g, off + j * 23, none⟩ = some (.int .i64 x.kd)) := hide (by
          have := hrx 0 (.int .i64 x.kd) rfl
          simpa using this)
        clear hx hrg hgl hrx
        by_cases h9 : x.kd = 9
        · have hd : (x.kd != 9) = false := by rw [h9]; rfl
          clear h9
          go_wp2_with (first | go_skip | ((with_reducible show wpList _ _ _ _ _ _); first | ((refine rd (by rfl) (ex_index22 j rfl rfl rfl hjl) ?_); simp only [Act.put, List.setIfInBounds_toArray, List.set_cons_succ, List.set_cons_zero]) | ((refine rd (by rfl) (ex_loadC (B := g) (p := off + j * 23) 3 Tryz.isAgg3 rfl rfl (unhide HKD)) ?_); simp only [Act.put, List.setIfInBounds_toArray, List.set_cons_succ, List.set_cons_zero]) | ((refine rd (by rfl) (ex_loadR (vs := x.cs) 41 23 row41 siz41 rfl rfl (unhide HX) rfl) ?_); simp only [Act.put, List.setIfInBounds_toArray, List.set_cons_succ, List.set_cons_zero])))
          go_roundg (n - (j + 1))
          case measure => omega
          case rel => exact ⟨j + 1, S', by go_num, by omega, Nat.le_refl _, hide ⟨(unhide HV).1.mono (Nat.le_succ _), (unhide HV).2⟩⟩
        · have C8 := hide (play_any S' x wr w.heap.size j (unhide HV).1 (by omega) (fun X hX => ((unhide HU) X ((unhide HV).2.2.trans hX)).1) (fun X hX => ((unhide HU) X ((unhide HV).2.2.trans hX)).2) (unhide HKX) h9)
          rw [(unhide HV).2.1] at C8
          have hd : (x.kd != 9) = true := by simpa using h9
          clear h9
          go_wp2_with (first | go_skip | ((with_reducible show wpList _ _ _ _ _ _); first | ((refine rd (by rfl) (ex_index22 j rfl rfl rfl hjl) ?_); simp only [Act.put, List.setIfInBounds_toArray, List.set_cons_succ, List.set_cons_zero]) | ((refine rd (by rfl) (ex_loadC (B := g) (p := off + j * 23) 3 Tryz.isAgg3 rfl rfl (unhide HKD)) ?_); simp only [Act.put, List.setIfInBounds_toArray, List.set_cons_succ, List.set_cons_zero]) | ((refine rd (by rfl) (ex_loadR (vs := x.cs) 41 23 row41 siz41 rfl rfl (unhide HX) rfl) ?_); simp only [Act.put, List.setIfInBounds_toArray, List.set_cons_succ, List.set_cons_zero])))
          refine (unhide C8).mono ?_
          rintro _ w4 ⟨rfl, S4, hS4, hW4⟩
          have HV4 : Hid (S4.Is w4 w.heap.size (j + 1) ∧ S4.P = S.P ∧ Below w.heap.size w w4) := hide ⟨hS4, hW4.P.trans (unhide HV).2.1, (unhide HV).2.2.trans (hW4.below (unhide HV).1.bs (unhide HV).1.bs.size)⟩
          clear hS4 hW4 C8
          go_wp2
          go_roundg (n - (j + 1))
          case measure => omega
          case rel => exact ⟨j + 1, S4, by go_num, by omega, Nat.le_refl _, HV4⟩
      · have hjz : ¬ (j : Int) < n := by omega
        have C1 := hide (tell_all S' wr w.heap.size j (unhide HV).1 (by omega) ((unhide HU) _ (unhide HV).2.2).1 ((unhide HU) _ (unhide HV).2.2).2)
        rw [(unhide HV).2.1] at C1
        go_wp2_with fail
        refine (unhide C1).mono ?_
        rintro _ w5 ⟨rfl, hb⟩
        have HV5 := hide (And.intro ((unhide HV).1.on hb) ((unhide HV).2.2.trans (hb.mono (unhide HV).2.2.size)))
        clear hb C1
        have C2 := hide (tell_all1 S' w5 w.heap.size j (unhide HV5).1 (by omega) ((unhide HU) _ (unhide HV5).2).1 ((unhide HU) _ (unhide HV5).2).2)
        rw [(unhide HV).2.1] at C2
        go_wp2_with fail
        refine (unhide C2).mono ?_
        rintro _ w6 ⟨rfl, hb⟩
        have HB := hide ((unhide HV5).2.trans (hb.mono (unhide HV5).2.size))
        clear hb C2
        go_wp2
        go_ret
        exact ⟨rfl, unhide HB⟩
  · rw [show decide ((n : Int) ≤ 400) = false from decide_eq_false (by omega)] at C6
    go_enter Tryz.func3, Tryz.ntmps3
    go_wp2_with fail
    refine (unhide C6).mono ?_
    rintro _ x6 ⟨rfl, e6⟩
    rw [e6]
    clear e6 x6 C6
    go_wp2
    go_ret
    exact ⟨rfl, Below.refl _ _⟩
end Go.Proofs.YtpbdidnphkkenaaGreatDoor
