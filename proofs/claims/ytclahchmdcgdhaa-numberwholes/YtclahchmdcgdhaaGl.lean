import Derived.Test.YtclahchmdcgdhaaGj
import Derived.Test.YtclahchmdcgdhaaGk
namespace Go.Proofs.Ytclahchmdcgdhaa
open Go.RowKit
def i64v (u : Nat) : Value := .int .i64 (u : Nat)
theorem info3 : (Try.prog.info? 3).map (fun i => (i.zero, i.size, i.bytes)) = some (some (.int .i64 0), 1, 8) := by kernel_rfl
theorem reads_of_own {B n : Nat} {w : World} {v : Value} {l : List Nat} (hown : w.ownsRow B 22 1 v n (l.map u64v)) : ReadsU w v l := by
  have hl : l.length = n := by simpa using hown.1
  rcases hown.2 with ⟨rfl, h0⟩ | ⟨g, cap, cur, rfl, hBg, hgb, hnc, hcm, hcs, htk⟩
  · exact ⟨none, 0, by rw [hl, h0], fun i hi => by omega⟩
  · refine ⟨_, cap, by rw [hl], fun i hi => ⟨g, 0, rfl, (Array.getElem?_eq_some_iff.1 hgb).1, ?_⟩⟩
    have hc := hown.cells (g := g) rfl i (u64v (l.getD i 0)) (by simp [hi, List.getD_eq_getElem?_getD])
    rcases Nat.eq_zero_or_pos i with rfl | hp
    · simpa [Addr.add, u64v] using hc
    · simpa [Addr.add, u64v, Nat.ne_of_gt hp] using hc
theorem ReadsU.same {w w' : World} {v : Value} {l : List Nat} (h : ReadsU w v l) (hb : Below w.heap.size w w') : ReadsU w' v l := by
  obtain ⟨A, cap, e, h⟩ := h
  refine ⟨A, cap, e, fun i hi => ?_⟩
  obtain ⟨b, off, e2, hlt, hc⟩ := h i hi
  exact ⟨b, off, e2, Nat.lt_of_lt_of_le hlt hb.size, (hb.cell (p := ⟨b, off + i, none⟩) hlt).trans hc⟩
theorem digits_of_own {B n : Nat} {w : World} {v : Value} {l : List Nat} (hown : w.ownsRow B 3 1 v n (l.map i64v)) : ∃ A cap, v = .slice A l.length cap ∧ l.length ≤ cap ∧ (∀ a, A = some a → B ≤ a.block) ∧ ∀ i, i < l.length → ∃ b off, A = some ⟨b, off, none⟩ ∧ b < w.heap.size ∧ w.cell? ⟨b, off + i, none⟩ = some (.int .i64 (l.getD i 0 : Nat)) := by
  have hl : l.length = n := by simpa using hown.1
  rcases hown.2 with ⟨rfl, h0⟩ | ⟨g, cap, cur, rfl, hBg, hgb, hnc, hcm, hcs, htk⟩
  · exact ⟨none, 0, by rw [hl, h0], by omega, (fun a e => by cases e), fun i hi => by omega⟩
  · refine ⟨_, cap, by rw [hl], by omega, (fun a e => by cases e; exact hBg), fun i hi => ⟨g, 0, rfl, (Array.getElem?_eq_some_iff.1 hgb).1, ?_⟩⟩
    have hc := hown.cells (g := g) rfl i (i64v (l.getD i 0)) (by simp [hi, List.getD_eq_getElem?_getD])
    rcases Nat.eq_zero_or_pos i with rfl | hp
    · simpa [Addr.add, i64v] using hc
    · simpa [Addr.add, i64v, Nat.ne_of_gt hp] using hc
/-- The units of the nine digits. -/
def un (j : Nat) : Nat := 100000000 / 10 ^ j
theorem un_succ (j : Nat) : un (j + 1) = un j / 10 := by unfold un; rw [Nat.pow_succ, Nat.div_div_eq_div_mul]
theorem un_pos (j : Nat) (h : j < 9) : 0 < un j := by
  match j, h with
  | 0, _ | 1, _ | 2, _ | 3, _ | 4, _ | 5, _ | 6, _ | 7, _ | 8, _ => decide
theorem un_le (j : Nat) : un j ≤ 100000000 := Nat.div_le_self _ _
theorem dig9_take (a j : Nat) (h : j < 9) : (dig9 a).take (j + 1) = (dig9 a).take j ++ [a / un j % 10] := by
  match j, h with
  | 0, _ | 1, _ | 2, _ | 3, _ | 4, _ | 5, _ | 6, _ | 7, _ | 8, _ => simp [dig9, un]
set_option maxHeartbeats 2000000 in
set_option maxRecDepth 100000 in
theorem exact_any (m e : Nat) (hm : m < 2 ^ 64) (he : 1 ≤ e) (he2 : e ≤ 1074) (w : World) : Calls Try.prog 53 #[.int .u64 (m : Int), .int .i64 (-(e : Int))] w fun r w' => ∃ vd D P', r = .returned (.agg #[vd, .int .i64 P']) ∧ ReadsD w' vd D ∧ isDec D P' (m * 5 ^ e) (-(e : Int)) ∧ D.length ≤ 1000000 ∧ Below w.heap.size w w' := by
  obtain ⟨i0, hi, hz0, hz1, hz2⟩ := info_parts info3
  have h1 : (-(e : Int)) ≤ 0 := by omega
  have hml : lv [m % 1000000000, m / 1000000000 % 1000000000, m / 1000000000000000000] = m := by simp only [lv]; omega
  have HML : Hid _ := ⟨hml⟩; clear hml
  go_enter Try.func53, Try.ntmps53
  go_wp2
  go_loop [5, 7] (fun sv tv => sv = .slice (some ⟨w.heap.size + 1, 0, none⟩) 3 3 ∧ tv = .int .i64 (-(e : Int))) (fun _ _ => 0)
  case atStart => exact ⟨rfl, rfl⟩
  case round =>
    obtain ⟨rfl, rfl⟩ := hrel
    go_wp2
    generalize hW : ((w.alloc _).alloc _ : World) = W0
    have hbox : W0.heap[w.heap.size]? = some (.cells #[.slice none 0 0, .int .i64 0] 64) := by rw [← hW, heap_alloc_old _ _ (by simp), heap_alloc_new]
    have hBW : Below w.heap.size w W0 := by rw [← hW]; exact below2 w _ _
    have hR0 : ReadsU W0 (.slice (some ⟨w.heap.size + 1, 0, none⟩) 3 3) [m % 1000000000, m / 1000000000 % 1000000000, m / 1000000000000000000] := by
      rw [← hW]
      refine ⟨_, 3, rfl, fun i hi => ⟨_, _, rfl, by simp, ?_⟩⟩
      have hc := news_cells (w.alloc (.cells #[.slice none 0 0, .int .i64 0] 64)) #[.int .u64 ((m : Int) % 1000000000), .int .u64 ((m : Int) / 1000000000 % 1000000000), .int .u64 ((m : Int) / 1000000000000000000)] 22 i
      have hsz : (w.alloc (.cells #[.slice none 0 0, .int .i64 0] 64)).heap.size = w.heap.size + 1 := by simp
      rw [hsz] at hc
      have hi' : i < 3 := hi
      match i, hi' with
      | 0, _ => exact hc _ rfl
      | 1, _ => exact hc _ rfl
      | 2, _ => exact hc _ rfl
    have HR0 : Hid _ := ⟨hR0⟩; clear hR0 hW
    go_loopw [5, 8] (fun sv kv wr => ∃ (r : Int) (l : List Nat), kv = .int .i64 r ∧ r ≤ e ∧ -12 < r ∧ ReadsU wr sv l ∧ (∀ x ∈ l, x < 1000000000) ∧ (l.length : Int) ≤ 3 + (e - r) ∧ lv l * 5 ^ r.toNat = m * 5 ^ e ∧ Below W0.heap.size W0 wr) (fun _ kv _ => (intOf kv + 12).toNat)
    case atStart => exact ⟨e, _, rfl, by omega, by omega, HR0.it, by intro x hx; simp at hx; omega, by simp, by rw [HML.it]; simp, Below.refl _ _⟩
    case round =>
      obtain ⟨r, l, rfl, hre, hr12, hR, hl, hll, hlv, hB⟩ := hrel
      by_cases hr0 : 0 < r
      · have HT : Hid _ := ⟨fun b hb => times_any _ l b hl (by omega) hb wr hR⟩
        have HLV : Hid _ := ⟨hlv⟩; clear hlv
        have HL : Hid _ := ⟨hl⟩; clear hl
        go_wp2
        go_loop [9, 10] (fun fv jv => ∃ j : Nat, jv = .int .i64 (j : Nat) ∧ fv = .int .u64 ((5 ^ j : Nat) : Int) ∧ (j : Int) ≤ min r 12) (fun _ jv => 12 - (intOf jv).toNat)
        case atStart => exact ⟨0, rfl, rfl, by simp; omega⟩
        case round =>
          obtain ⟨j, rfl, rfl, hj⟩ := hrel
          by_cases hjl : (j : Int) < min r 12
          · have h5 : 5 ^ j ≤ 5 ^ 11 := Nat.pow_le_pow_right (by decide) (by omega)
            have h6 : 5 ^ (j + 1) = 5 ^ j * 5 := Nat.pow_succ ..
            have H6 : Hid _ := ⟨h6⟩; clear h6
            generalize 5 ^ j = q at *
            go_wp2
            refine ⟨⟨j + 1, by go_num, by rw [H6.it]; go_num, by omega⟩, by simp [intOf]; omega⟩
          · have hje : j = (min r 12).toNat := by omega
            have h5 : 5 ^ j ≤ 5 ^ 12 := Nat.pow_le_pow_right (by decide) (by omega)
            have HT2 := HT.it (5 ^ j) (by omega)
            have HT3 : Hid _ := ⟨HT2⟩; clear HT2 HT
            have h6 : 5 ^ r.toNat = 5 ^ j * 5 ^ (r - 12).toNat := by rw [← Nat.pow_add]; congr 1; omega
            have H6 : Hid _ := ⟨h6⟩; clear h6
            generalize 5 ^ j = q at *
            have FIN : Hid (∀ w2 v2, w2.ownsRow wr.heap.size 22 1 v2 (tms q l 0).length ((tms q l 0).map u64v) → Below wr.heap.size wr w2 → ReadsU w2 v2 (tms q l 0) ∧ (∀ x ∈ tms q l 0, x < 1000000000) ∧ ((tms q l 0).length : Int) ≤ 3 + (e - (r - 12)) ∧ lv (tms q l 0) * 5 ^ (r - 12).toNat = m * 5 ^ e ∧ Below W0.heap.size W0 w2) := by
              refine ⟨fun w2 v2 ho hb => ⟨reads_of_own ho, tms_lt q l 0, ?_, ?_, hB.trans (hb.mono hB.size)⟩⟩
              · have := tms_len q (by omega) l HL.it 0 (by decide)
                omega
              · rw [tms_lv, ← HLV.it, H6.it, Nat.add_zero, Nat.mul_assoc]
            go_wp2_with fail
            all_goals
              refine HT3.it.mono ?_
              rintro e2 w2 ⟨v2, rfl, hown2, hb2⟩
              have FF := FIN.it w2 v2 hown2 hb2
              have FG : Hid _ := ⟨FF⟩; clear FF
              go_wp2
              go_roundw
              case rel => exact ⟨r - 12, _, rfl, by omega, by omega, FG.it⟩
              case measure => simp [intOf]; omega
      · have hr1 : r ≤ 0 := by omega
        have hr2 : r.toNat = 0 := by omega
        rw [hr2, Nat.pow_zero, Nat.mul_one] at hlv
        have HLV : Hid _ := ⟨hlv⟩; clear hlv hr2
        have HL : Hid _ := ⟨hl⟩; clear hl
        have hl3 : l.length ≤ 2000 := by omega
        have hbox2 : wr.heap[w.heap.size]? = some (.cells #[.slice none 0 0, .int .i64 0] 64) := by
          rw [hB.block w.heap.size (Array.getElem?_eq_some_iff.1 hbox).1]; exact hbox
        obtain ⟨A, cap, rfl, hA⟩ := hR
        have HA : Hid _ := ⟨hA⟩; clear hA
        generalize wr = W1 at *
        go_wp2
        go_loopw [11, 12, 13] (fun dv' iv _ wq => ∃ (k : Nat) (vd : Value), dv' = vd ∧ iv = .int .i64 ((k : Int) - 1) ∧ k ≤ l.length ∧ wq.ownsRow W1.heap.size 3 1 vd (9 * (l.length - k)) ((digs (l.drop k)).map i64v) ∧ Below W1.heap.size W1 wq) (fun _ iv _ _ => (intOf iv + 1).toNat)
        case atStart => exact ⟨l.length, _, rfl, rfl, Nat.le_refl _, by simp [digs]; exact World.ownsRow_nil _ _ _ _, Below.refl _ _⟩
        case round =>
          obtain ⟨k, vd, rfl, rfl, hk, hown, hBq⟩ := hrel
          by_cases hk0 : 0 < k
          · obtain ⟨k, rfl⟩ : ∃ k', k = k' + 1 := ⟨k - 1, by omega⟩
            have hki : (((k + 1 : Nat) : Int) - 1) = (k : Int) := by omega
            rw [hki]
            obtain ⟨b, off, rfl, hblt, hcell⟩ := HA.it k (by omega)
            have HDR : Hid _ := ⟨drop_getD l k (by omega)⟩
            have ha : l.getD k 0 < 1000000000 := by
              rw [List.getD_eq_getElem?_getD, List.getElem?_eq_getElem (by omega)]; exact HL.it _ (List.getElem_mem _)
            generalize l.getD k 0 = a at *
            generalize wr = W2 at *
            go_wp2
            go_loopw [11, 13] (fun dv' uv wz => ∃ (j : Nat) (vd : Value), dv' = vd ∧ uv = .int .u64 (un j : Int) ∧ j ≤ 9 ∧ wz.ownsRow W1.heap.size 3 1 vd (9 * (l.length - (k + 1)) + j) ((digs (l.drop (k + 1)) ++ (dig9 a).take j).map i64v) ∧ Below W1.heap.size W1 wz) (fun _ uv _ => (intOf uv).toNat)
            case atStart => exact ⟨0, _, rfl, rfl, by omega, by simpa using hown, hBq⟩
            case round =>
              obtain ⟨j, vd, rfl, rfl, hj, hown, hBz⟩ := hrel
              by_cases hj9 : j < 9
              · have hcw : wr.cell? ⟨b, off + k, none⟩ = some (.int .u64 (a : Nat)) := (hBz.cell (p := ⟨b, off + k, none⟩) hblt).trans hcell
                have hu0 := un_pos j hj9
                have hu1 := un_le j
                have HS : Hid _ := ⟨un_succ j⟩
                have HTK : Hid _ := ⟨dig9_take a j hj9⟩
                generalize un j = u at *
                have hu0i : (0 : Int) < (u : Int) := by omega
                have hq : (a : Int) / (u : Int) = ((a / u : Nat) : Int) := by simp
                have hq1 : a / u < 1000000000 := Nat.lt_of_le_of_lt (Nat.div_le_self ..) ha
                generalize a / u = q at *
                go_wp2_with (at_builtin; refine wpList_append_own _ rfl _ _ 62 rfl W1.heap.size 3 i0 (.int .i64 0) 1 8 Try.underlying62 hi hz0 hz1 hz2 rfl (by decide) _ _ _ rfl (hown.alloc _) ⟨_, 0, none⟩ 1 1 [_] rfl rfl (news_cells _ #[_] 3) (by simp [Value.oneCell']) (by unfold maxLen; omega) (by omega) (by have := hBz.size; simp; omega) ?_; intro v' w1 hown' hgrow _)
                refine ⟨⟨j + 1, v', rfl, by rw [HS.it]; go_num, by omega, ?_, hBz.trans (below_app' hown hBz.size hgrow)⟩, by simp [intOf]; omega⟩
                rw [HTK.it]
                simpa [i64v, Nat.add_assoc] using hown'
              · have hj' : j = 9 := by omega
                subst hj'
                have hu9 : un 9 = 0 := by decide
                rw [hu9]
                have hown9 : wr.ownsRow W1.heap.size 3 1 u11 (9 * (l.length - k)) ((digs (l.drop k)).map i64v) := by
                  rw [HDR.it]
                  have e1 : 9 * (l.length - k) = 9 * (l.length - (k + 1)) + 9 := by omega
                  rw [e1]
                  exact hown
                go_wp2
                go_roundw
                case rel => exact ⟨k, _, rfl, by go_num, by omega, hown9, hBz⟩
                case measure => simp [intOf]
          · have hk' : k = 0 := by omega
            subst hk'
            rw [List.drop_zero, Nat.sub_zero] at hown
            obtain ⟨A2, cap2, rfl, hcap2, hA2b, hA2⟩ := digits_of_own hown
            have hT := trim_any A2 cap2 (digs l) ((digs l).length + -(e : Int)) (digs_lt l) (by rw [digs_len]; omega) hcap2 (by rw [digs_len]; omega) wr hA2
            rw [digs_dv l HL.it, HLV.it] at hT
            have HA2 : Hid _ := ⟨And.intro hA2b hA2⟩; clear hA2b hA2
            have HT : Hid _ := ⟨hT⟩; clear hT
            have hdl : (digs l).length ≤ 18000 := by rw [digs_len]; omega
            have hbox3 : wr.heap[w.heap.size]? = some (.cells #[.slice none 0 0, .int .i64 0] 64) := by
              rw [hBq.block w.heap.size (Array.getElem?_eq_some_iff.1 hbox2).1]; exact hbox2
            have HOUT : Hid (∀ w2, Below wr.heap.size wr w2 → Below w.heap.size w w2) := ⟨fun w2 hb => hBW.trans ((hB.mono hBW.size).trans ((hBq.mono (Nat.le_trans hBW.size hB.size)).trans (hb.mono (Nat.le_trans hBW.size (Nat.le_trans hB.size hBq.size)))))⟩
            go_wp2_with fail
            refine HT.it.mono ?_
            rintro e2 w2 ⟨f, t, P', rfl, hft, ht, hdec, hb2⟩
            have HDEC : Hid _ := ⟨hdec⟩; clear hdec
            have hbox4 : w2.heap[w.heap.size]? = some (.cells #[.slice none 0 0, .int .i64 0] 64) := by
              rw [hb2.block w.heap.size (Array.getElem?_eq_some_iff.1 hbox3).1]; exact hbox3
            obtain ⟨A3, n3, c3, hvd⟩ : ∃ A3 n3 c3, (if f = t then Value.slice none 0 0 else Value.slice (A2.map fun a => ⟨a.block, a.off + f, none⟩) (t - f) (cap2 - f)) = Value.slice A3 n3 c3 := by split <;> exact ⟨_, _, _, rfl⟩
            rw [hvd]
            have HVD : Hid _ := ⟨hvd⟩; clear hvd
            have hc0 : w2.cell? ⟨w.heap.size, 0, none⟩ = some (.slice none 0 0) := by simp [World.cell?, hbox4]
            have hc1 : w2.cell? ⟨w.heap.size, 1, none⟩ = some (.int .i64 0) := by simp [World.cell?, hbox4]
            have hf0 : w2.frozen? ⟨w.heap.size, 0, none⟩ = false := by simp [World.frozen?, hbox4]
            have hf1 : w2.frozen? ⟨w.heap.size, 1, none⟩ = false := by simp [World.frozen?, hbox4]
            go_wp2
            have hbox5 : ((w2.setCell ⟨w.heap.size, 0, none⟩ (.slice A3 n3 c3)).setCell ⟨w.heap.size, 1, none⟩ (.int .i64 P')).heap[w.heap.size]? = some (.cells #[.slice A3 n3 c3, .int .i64 P'] 64) := by
              simp [World.setCell, Array.getElem?_modify, hbox4]
            refine bodyPost_ret (results_cell_row (P := Try.prog) rfl _ _ w.heap.size 64 _ _ _ rfl hbox5 Try.underlying64 rfl (by kernel_rfl)) rfl ?_
            refine ⟨_, ((digs l).drop f).take (t - f), P', rfl, ?_, ?_, ?_, ((HOUT.it _ hb2).setCell (p := ⟨w.heap.size, 0, none⟩) (Nat.le_refl _) _).setCell (p := ⟨w.heap.size, 1, none⟩) (Nat.le_refl _) _⟩
            · have hvd := HVD.it
              have hDl : (((digs l).drop f).take (t - f)).length = t - f := by rw [List.length_take, List.length_drop]; omega
              have hsmall : w.heap.size < W1.heap.size := (Array.getElem?_eq_some_iff.1 hbox2).1
              split at hvd
              · next hft0 =>
                cases hvd
                exact ⟨none, 0, by rw [hDl, hft0, Nat.sub_self], fun i hi => by omega⟩
              · next hft0 =>
                cases hvd
                refine ⟨_, _, by rw [hDl], fun i hi => ?_⟩
                obtain ⟨b, off, hA2e, hblt, hcell⟩ := HA2.it.2 (f + i) (by omega)
                have hbb := HA2.it.1 _ hA2e
                refine ⟨b, off + f, by rw [hA2e]; rfl, ?_, ?_⟩
                · have := hb2.size
                  simp [World.setCell]
                  omega
                · have e1 : (((digs l).drop f).take (t - f)).getD i 0 = (digs l).getD (f + i) 0 := by
                    simp only [List.getD_eq_getElem?_getD, List.getElem?_take, List.getElem?_drop]
                    rw [if_pos (by omega)]
                  rw [e1, ← hcell, Nat.add_assoc]
                  have hne : b ≠ w.heap.size := by simp at hbb; omega
                  have hk : ∀ w3 : World, w3.heap[b]? = wr.heap[b]? → w3.cell? ⟨b, off + (f + i), none⟩ = wr.cell? ⟨b, off + (f + i), none⟩ := by
                    intro w3 h3
                    simp only [World.cell?, h3]
                  apply hk
                  rw [Below.heap_setCell _ _ _ _ hne, Below.heap_setCell _ _ _ _ hne]
                  exact hb2.block b hblt
            · have hx := HDEC.it
              rwa [show ((digs l).length : Int) + -(e : Int) - ((digs l).length : Int) = -(e : Int) by omega] at hx
            · rw [List.length_take, List.length_drop]; omega
end Go.Proofs.Ytclahchmdcgdhaa
