import Derived.Test.YteohiamifoonkaaDoorWh
import Derived.LoopTactic
namespace Go.Proofs.YteohiamifoonkaaDoor
open Go.RowKit Go.Shelf

theorem row_small (l : List Nat) (h16 : ∀ x ∈ l, x < 65536) : ∀ c ∈ M.row l, c ≤ 1114111 := (M.row_props l.length l (Nat.le_refl _) h16).1
theorem ptCells_get (l : List (Nat × Nat)) (k : Nat) (h : k < l.length) : (ptCells l)[k * 2 + 1]? = some (i64v (l[k].2)) ∧ (ptCells l)[k * 2]? = some (i64v (l[k].1)) := by
  induction l generalizing k with
  | nil => simp at h
  | cons p r ih =>
    cases k with
    | zero => simp [ptCells]
    | succ k =>
      have := ih k (by simpa using h)
      have e1 : (k + 1) * 2 + 1 = (k * 2 + 1) + 2 := by omega
      have e2 : (k + 1) * 2 = (k * 2) + 2 := by omega
      rw [e1, e2]
      simp only [ptCells, List.flatMap_cons, List.cons_append, List.nil_append, List.getElem?_cons_succ, List.getElem_cons_succ] at *
      exact this

set_option maxHeartbeats 2000000 in
set_option maxRecDepth 100000 in
theorem refOf_any (v : Value) (l : List Nat) (h16 : ∀ x ∈ l, x < 65536) (hlen : l.length ≤ 1099511627776) (w : World) (hR : Reads w v l) :
    Calls Tryd.prog 31 #[v] w fun e w' => ∃ s, e = .returned (.string s) ∧ nums s = M.ofL l ∧ Below w.heap.size w w' := by
  have hrow := row_any v l h16 hlen w hR
  have hs := row_small l h16
  have hsnd := rowP_snd l.length 0 l (Nat.le_refl _)
  have hll : (rowP 0 l).length ≤ l.length := by
    have e1 := congrArg List.length hsnd
    rw [List.length_map] at e1
    have e2 : (M.row l).length ≤ ((M.row l).flatMap M.U).length := by
      generalize M.row l = q
      induction q with
      | nil => simp
      | cons c r ih =>
        have : 1 ≤ (M.U c).length := by unfold M.U; split <;> simp
        simp only [List.flatMap_cons, List.length_append, List.length_cons]; omega
    rw [(M.row_props l.length l (Nat.le_refl _) h16).2.1] at e2
    omega
  unfold M.ofL
  rw [← hsnd] at hs ⊢
  clear hsnd
  generalize rowP 0 l = rp at *
  have HROW := hide hrow; clear hrow
  have hs' : ∀ k (h : k < rp.length), (rp[k]).2 ≤ 1114111 := fun k h => hs _ (List.mem_map_of_mem (List.getElem_mem h))
  have HS := hide hs'; clear hs'
  go_enter Tryd.func31, Tryd.ntmps31
  go_wp2_with fail
  refine (unhide HROW).mono ?_
  rintro e w1 ⟨vp, rfl, hown, hb⟩
  obtain ⟨A, cap, rfl, hA⟩ : ∃ A cap, vp = .slice A rp.length cap ∧ (∀ i (h : i < rp.length), ∃ g, A = some ⟨g, 0, none⟩ ∧ g < w1.heap.size ∧ w1.cell? ⟨g, i * 2 + 1, none⟩ = some (.int .i64 (rp[i].2 : Nat))) := by
    rcases hown.2 with ⟨rfl, h0⟩ | ⟨g, cap, cur, rfl, hBg, hgb, hnc, hcm, hcs, htk⟩
    · exact ⟨none, 0, by rw [h0], fun i hi => by omega⟩
    · refine ⟨_, _, rfl, fun i hi => ⟨g, rfl, (Array.getElem?_eq_some_iff.1 hgb).1, ?_⟩⟩
      rw [hown.cellAt (i * 2 + 1) (by omega)]
      exact (ptCells_get rp i hi).1
  have HA := hide hA; clear hA
  go_wp2
  go_loopw [3, 5] (fun b i wr => ∃ (k n : Nat) (vb : Value), b = vb ∧ i = .int .i64 (k : Nat) ∧ k ≤ rp.length ∧ n ≤ 4 * k ∧ wr.ownsRow w1.heap.size 5 1 vb n (((rp.take k).map (·.2)).flatMap M.E |>.map u8v) ∧ Below w1.heap.size w1 wr) (fun _ i _ => rp.length - (intOf i).toNat)
  case atStart => exact ⟨0, 0, _, rfl, rfl, by omega, by omega, World.ownsRow_nil _ _ _ _, Below.refl _ _⟩
  case round =>
    obtain ⟨k, n, vb, rfl, rfl, hk, hn, hownb, hB⟩ := hrel
    by_cases hlt : k < rp.length
    · obtain ⟨g, rfl, hglt, hcell⟩ := unhide HA k hlt
      have hcw : wr.cell? ⟨g, k * 2 + 1, none⟩ = some (.int .i64 (rp[k].2 : Nat)) := (hB.cell (p := ⟨g, k * 2 + 1, none⟩) hglt).trans hcell
      have hc := unhide HS k hlt
      have htk : rp.take (k + 1) = rp.take k ++ [rp[k]] := List.take_succ_eq_append_getElem hlt
      have HTK := hide htk; clear htk
      have henc := put_any w1.heap.size n u3 _ rp[k].2 hc wr hownb (by omega) hB.size
      have HENC := hide henc; clear henc
      have hE4 := M.E_len rp[k].2
      generalize hcc : rp[k].2 = c at *
      have HCC := hide hcc; clear hcc
      have hk1 : (k : Int) < (rp.length : Int) := by omega
      go_wp2_with fail
      refine (unhide HENC).mono ?_
      rintro e w2 ⟨vb2, rfl, hown2, hb2⟩
      go_wp2
      go_roundw
      case rel => exact ⟨k + 1, n + (M.E c).length, vb2, rfl, by go_num, by omega, by omega, by rw [unhide HTK, List.map_append, List.flatMap_append, List.map_append]; simpa [unhide HCC] using hown2, hB.trans hb2⟩
      case measure => simp [intOf]; omega
    · obtain ⟨s, hconv, hns⟩ := run_str wr w1.heap.size n u3 (((rp.take k).map (·.2)).flatMap M.E) hownb (fun x hx => by
        rw [List.mem_flatMap] at hx; obtain ⟨c, hc, hx⟩ := hx
        rw [List.mem_map] at hc
        obtain ⟨p, hp, rfl⟩ := hc
        exact E_256 _ (hs _ (List.mem_map_of_mem (List.mem_of_mem_take hp))) x hx)
      have HNS := hide hns; clear hns
      go_wp2
      go_ret
      refine ⟨s, rfl, ?_, hb.trans (hB.mono hb.size)⟩
      rw [unhide HNS, List.take_of_length_le (by omega)]

def tailZ (n : Nat) (l : List Nat) (c : Nat) : Int := match M.tailN n l c with
  | some c => (c : Int)
  | none => -1
theorem tail_bound : ∀ (n : Nat) (l : List Nat) (c d : Nat), M.tailN n l c = some d → d < 64 ^ n * (c + 1)
  | 0, _, c, d, h => by simp [M.tailN] at h; omega
  | n + 1, l, c, d, h => by
    unfold M.tailN at h
    split at h
    · simp at h
    · split at h
      · simp at h
      · rename_i b t hb
        have := tail_bound n t (64 * c + (b - 128)) d h
        have h2 : 64 ^ n * (64 * c + (b - 128) + 1) ≤ 64 ^ n * (64 * (c + 1)) := Nat.mul_le_mul_left _ (by omega)
        rw [Nat.pow_succ]
        have h3 : 64 ^ n * 64 * (c + 1) = 64 ^ n * (64 * (c + 1)) := by rw [Nat.mul_assoc]
        omega
set_option maxHeartbeats 2000000 in
set_option maxRecDepth 100000 in
theorem tail_any (s : ByteArray) (p n : Nat) (hn : n ≤ 3) (hp : p ≤ s.size) (hsz : s.size ≤ 1099511627776) (w : World) :
    Calls Tryd.prog 42 #[.string s, .int .i64 (p : Nat), .int .i64 (n : Nat)] w fun e w' => e = .returned (.int .i64 (tailZ n ((nums s).drop p) 0)) ∧ w' = w := by
  go_enter Tryd.func42, Tryd.ntmps42
  go_wp2
  go_loop [7, 8] (fun c i => ∃ (k d : Nat), i = .int .i64 (k : Nat) ∧ c = .int .i64 (d : Nat) ∧ k ≤ n ∧ p + k ≤ s.size ∧ d < 64 ^ k ∧ M.tailN n ((nums s).drop p) 0 = M.tailN (n - k) ((nums s).drop (p + k)) d) (fun _ i => n - (intOf i).toNat)
  case atStart => exact ⟨0, 0, rfl, rfl, by omega, by omega, by simp, rfl⟩
  case round =>
    obtain ⟨k, d, rfl, rfl, hk, hpk, hd, ht⟩ := hrel
    have HT := hide ht; clear ht
    by_cases hlt : k < n
    · have hd2 : d < 4096 := Nat.lt_of_lt_of_le hd (by
        have : k ≤ 2 := by omega
        have h2 : 64 ^ k ≤ 64 ^ 2 := Nat.pow_le_pow_right (by omega) this
        simpa using h2)
      have hk1 : (k : Int) < (n : Int) := by omega
      by_cases hin : p + k < s.size
      · have hi1 : (p : Int) + (k : Int) < (s.size : Int) := by omega
        obtain ⟨x, hx⟩ : ∃ x, s[p + k]'hin = x := ⟨_, rfl⟩
        have hget : (nums s).getD (p + k) 0 = x.toNat := by rw [nums_get s (p + k) hin, hx]
        have hdr : (nums s).drop (p + k) = x.toNat :: (nums s).drop (p + k + 1) := by
          rw [drop_getD _ _ (by rw [nums_len]; exact hin), hget]
        have HDR := hide hdr; clear hdr hget
        have hxl := x.toNat_lt
        obtain ⟨m, hm⟩ : ∃ m, n - k = m + 1 := ⟨n - k - 1, by omega⟩
        have hm2 : n - (k + 1) = m := by omega
        have hstep : M.tailN n ((nums s).drop p) 0 = if x.toNat < 128 ∨ 191 < x.toNat then none else M.tailN m ((nums s).drop (p + k + 1)) (64 * d + (x.toNat - 128)) := by
          rw [unhide HT, unhide HDR, hm]; rfl
        have HST := hide hstep; clear hstep
        have HM := hide hm2; clear hm hm2
        by_cases c1 : x.toNat < 128
        · have c1' : (x.toNat : Int) < 128 := by omega
          clear c1
          go_wp2
          go_ret
          refine ⟨ret_int ?_, rfl⟩
          unfold tailZ; rw [unhide HST, if_pos (Or.inl (by omega))]
        · by_cases c2 : 191 < x.toNat
          · have c1' : ¬ (x.toNat : Int) < 128 := by omega
            have c2' : (191 : Int) < (x.toNat : Int) := by omega
            clear c1 c2
            go_wp2
            go_ret
            refine ⟨ret_int ?_, rfl⟩
            unfold tailZ; rw [unhide HST, if_pos (Or.inr (by omega))]
          · have c1' : ¬ (x.toNat : Int) < 128 := by omega
            have c2' : ¬ (191 : Int) < (x.toNat : Int) := by omega
            go_wp2
            go_round
            case rel =>
              refine ⟨k + 1, 64 * d + (x.toNat - 128), by go_num, by congr 1; omega, by omega, by omega, ?_, ?_⟩
              · rw [Nat.pow_succ]; omega
              · rw [unhide HM, unhide HST, if_neg (by omega)]; rfl
            case measure => simp [intOf]; omega
      · have hi1 : ¬ ((p : Int) + (k : Int) < (s.size : Int)) := by omega
        obtain ⟨m, hm⟩ : ∃ m, n - k = m + 1 := ⟨n - k - 1, by omega⟩
        have HM := hide hm; clear hm
        go_wp2
        go_ret
        refine ⟨ret_int ?_, rfl⟩
        unfold tailZ; rw [unhide HT, unhide HM, List.drop_of_length_le (by rw [nums_len]; omega)]; rfl
    · have hk1 : ¬ (k : Int) < (n : Int) := by omega
      go_wp2
      go_ret
      refine ⟨ret_int ?_, rfl⟩
      unfold tailZ; rw [unhide HT, show n - k = 0 by omega]; rfl
end Go.Proofs.YteohiamifoonkaaDoor
