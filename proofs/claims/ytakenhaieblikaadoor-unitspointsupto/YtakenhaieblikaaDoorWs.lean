import Derived.Test.YtakenhaieblikaaDoorWr
namespace Go.Proofs.YtakenhaieblikaaDoor
open Go.RowKit Go.Shelf

/-- v is a slice of int whose elements are E. -/
def ReadsI (w : World) (v : Value) (E : List Nat) : Prop :=
  ∃ g cap, v = .slice (some ⟨g, 0, none⟩) E.length cap ∧ g < w.heap.size ∧ ∀ i, i < E.length → w.cell? ⟨g, i, none⟩ = some (.int .i64 (E.getD i 0 : Nat))
theorem ReadsI.same {w w' : World} {v : Value} {E : List Nat} (h : ReadsI w v E) (hb : Below w.heap.size w w') : ReadsI w' v E := by
  obtain ⟨g, cap, rfl, hlt, hc⟩ := h
  exact ⟨g, cap, rfl, Nat.lt_of_lt_of_le hlt hb.size, fun i hi => (hb.cell (p := ⟨g, i, none⟩) hlt).trans (hc i hi)⟩
theorem getD_some {l : List Nat} {i : Nat} (h : i < l.length) : l[i]? = some (l.getD i 0) := by
  rw [List.getD_eq_getElem?_getD, List.getElem?_eq_getElem h]; rfl

set_option maxHeartbeats 1000000 in
set_option maxRecDepth 100000 in
theorem extend_any (vt ve : Value) (t E x : List Nat) (m k0 u : Nat) (hlen : t.length ≤ 1099511627776) (w : World) (ht : Reads w vt t) (he : ReadsI w ve E) (hm : m ≤ E.length) (hE : ∀ i, 1 ≤ i → i ≤ m → M.MaxB t i (E.getD (i - 1) 0)) (hk0 : k0 ≤ m) (hx : M.Cand t x k0) :
    Calls Tryd.prog 73 #[vt, ve, .int .i64 (k0 : Nat), .int .u16 (u : Nat)] w fun e w' => ∃ r : Nat, e = .returned (.int .i64 (r : Nat)) ∧ M.Suf t (x ++ [u]) r ∧ (∀ j, M.Suf t (x ++ [u]) j → j ≤ r) ∧ ∃ n, w' = w.drewN n := by
  obtain ⟨A, ca, rfl, hA⟩ := reads_open ht
  obtain ⟨g, cap, rfl, hlt, hc⟩ := he
  have HA := hide hA; have HC := hide hc; have HE := hide hE; clear hA hc ht hE
  have hEx : M.Ext t x u k0 := M.ext_of_cand hx
  clear hx
  have hk0t : k0 < t.length := hEx.1
  go_enter Tryd.func73, Tryd.ntmps73
  go_wp2
  go_loopw [2] (fun kv wr => ∃ (k n : Nat), kv = .int .i64 (k : Nat) ∧ k ≤ m ∧ M.Ext t x u k ∧ wr = w.drewN n) (fun kv _ => (intOf kv).toNat)
  case atStart => exact ⟨k0, 0, rfl, hk0, hEx, rfl⟩
  case round =>
    obtain ⟨k, n, rfl, hk, hex, rfl⟩ := hrel
    have hkt := hex.1
    have HEX := hide hex; clear hex
    obtain ⟨b, off, rfl, _, hcell⟩ := unhide HA k hkt
    have hget := getD_some hkt
    have hkt' : (k : Int) < (t.length : Int) := by omega
    generalize t.getD k 0 = y at *
    have HG := hide hget; clear hget
    by_cases hz : 0 < k
    · have hz' : (0 : Int) < (k : Int) := by omega
      by_cases hy : y = u
      · subst hy
        have hne : ((y : Int) != (y : Int)) = false := by simp
        have heq : ((y : Int) == (y : Int)) = true := by simp
        go_wp2
        go_ret
        exact ⟨k + 1, ret_int (by omega), (M.ext_hit (unhide HEX) (unhide HG)).1, (M.ext_hit (unhide HEX) (unhide HG)).2, n, rfl⟩
      · have hne : ((y : Int) != (u : Int)) = true := by rw [bne_iff_ne]; omega
        have hmx := unhide HE k hz hk
        have hce := unhide HC (k - 1) (by omega)
        have hel := hmx.1
        have HMX := hide hmx; clear hmx
        generalize E.getD (k - 1) 0 = ev at *
        have hk1 : (0 : Int) ≤ (k : Int) - 1 := by omega
        have hk2 : (k : Int) - 1 < (E.length : Int) := by omega
        have HY := hide hy; clear hy
        go_wp2
        go_roundw
        case rel => exact ⟨ev, n, rfl, by omega, M.ext_step (unhide HEX) (by rw [unhide HG]; intro e; exact unhide HY (by simpa using e)) (unhide HMX), rfl⟩
        case measure => simp [intOf]; omega
    · have hz' : ¬ (0 : Int) < (k : Int) := by omega
      have hk00 : k = 0 := by omega
      by_cases hy : y = u
      · subst hy
        have heq : ((y : Int) == (y : Int)) = true := by simp
        have HK := hide hk00; clear hk00
        go_wp2
        go_ret
        exact ⟨k + 1, ret_int (by omega), (M.ext_hit (unhide HEX) (unhide HG)).1, (M.ext_hit (unhide HEX) (unhide HG)).2, n, rfl⟩
      · have heq : ((y : Int) == (u : Int)) = false := by rw [beq_eq_false_iff_ne]; omega
        have HK := hide hk00; have HY := hide hy; clear hk00 hy
        go_wp2
        go_ret
        have hk00 := unhide HK
        subst hk00
        have hms := M.ext_miss (unhide HEX) (by rw [unhide HG]; intro e; exact unhide HY (by simpa using e))
        exact ⟨0, rfl, hms.1, hms.2, n, rfl⟩

theorem info3 : (Tryd.prog.info? 3).map (fun i => (i.zero, i.size, i.bytes)) = some (some (.int .i64 0), 1, 8) := by kernel_rfl
theorem readsI_own {w : World} {B g cap : Nat} {E : List Nat} (h : w.ownsRow B 3 1 (.slice (some ⟨g, 0, none⟩) E.length cap) E.length (E.map i64v)) : ReadsI w (.slice (some ⟨g, 0, none⟩) E.length cap) E := by
  refine ⟨g, cap, rfl, (h.lt g rfl).2, fun i hi => ?_⟩
  rw [h.cellAt i (by omega), List.getElem?_map, getD_some hi]; rfl

set_option maxHeartbeats 2000000 in
set_option maxRecDepth 100000 in
theorem borders_any (vt : Value) (t : List Nat) (h0 : 0 < t.length) (hlen : t.length ≤ 1099511627776) (w : World) (ht : Reads w vt t) :
    Calls Tryd.prog 72 #[vt] w fun e w' => ∃ v E, e = .returned v ∧ ReadsI w' v E ∧ E.length = t.length ∧ (∀ i, 1 ≤ i → i ≤ t.length → M.MaxB t i (E.getD (i - 1) 0)) ∧ Below w.heap.size w w' := by
  obtain ⟨i0, hi, hz0, hz1, hz2⟩ := info_parts info3
  obtain ⟨wm, hmake, hrow0, hgrow0⟩ := run_make_full (P := Tryd.prog) w w.heap.size 107 3 i0 (.int .i64 0) 1 Tryd.underlying107 hi hz0 hz1 .i64 .i64 t.length (by rw [hz2]; omega) (by unfold maxLen; omega) (Nat.le_refl _)
  have hBm : Below w.heap.size w wm := ⟨hgrow0.os, hgrow0.tape, hgrow0.output, hgrow0.size, fun k hk => hgrow0.block k hk (by simp)⟩
  have hzc : (madeCells (Value.int .i64 0).cells (t.length * 1)).toList = (List.replicate t.length 0).map i64v := by
    rw [Nat.mul_one]
    refine (toList_madeCells_one (.int .i64 0) t.length).trans ?_
    rw [List.map_replicate]; rfl
  rw [hzc] at hrow0
  clear hzc
  obtain ⟨A, ca, rfl, hA⟩ := reads_open ht
  have HA := hide hA; have HT := hide ht; clear hA ht
  generalize hgg : w.heap.size = B at *
  go_enter Tryd.func72, Tryd.ntmps72
  go_wp2
  go_loopw [4] (fun iv wr => ∃ (k : Nat) (E : List Nat), iv = .int .i64 (k : Nat) ∧ 1 ≤ k ∧ k ≤ t.length ∧ E.length = t.length ∧ wr.ownsRow B 3 1 (.slice (some ⟨B, 0, none⟩) t.length t.length) t.length (E.map i64v) ∧ (∀ i, 1 ≤ i → i ≤ k → M.MaxB t i (E.getD (i - 1) 0)) ∧ Below B w wr) (fun iv _ => t.length - (intOf iv).toNat)
  case atStart =>
    exact ⟨1, List.replicate t.length 0, rfl, by omega, by omega, by simp, hrow0, fun i h1 h2 => by
      have : i = 1 := by omega
      subst this
      have e : (List.replicate t.length 0).getD (1 - 1) 0 = 0 := by rw [List.getD_eq_getElem?_getD, List.getElem?_replicate]; split <;> rfl
      rw [e]; exact M.maxB_one t, hBm⟩
  case round =>
    obtain ⟨k, E, rfl, hk1, hk, hEl, hown, hE, hB⟩ := hrel
    by_cases hlt : k < t.length
    · obtain ⟨j, rfl⟩ : ∃ j, k = j + 1 := ⟨k - 1, by omega⟩
      have hlt' : (j : Int) + 1 < (t.length : Int) := by omega
      obtain ⟨b, off, rfl, hblt, hcell⟩ := unhide HA (j + 1) hlt
      have hct : wr.cell? ⟨b, off + (j + 1), none⟩ = some (.int .u16 (t.getD (j + 1) 0 : Nat)) := (hB.cell (p := ⟨b, off + (j + 1), none⟩) hblt).trans hcell
      have hce : wr.cell? ⟨B, j, none⟩ = some (.int .i64 (E.getD j 0 : Nat)) := by
        rw [hown.cellAt j (by omega), List.getElem?_map, getD_some (by omega)]; rfl
      have hcw : wr.cell? ⟨B, j + 1, none⟩ = some (.int .i64 (E.getD (j + 1) 0 : Nat)) := by
        rw [hown.cellAt (j + 1) (by omega), List.getElem?_map, getD_some (by omega)]; rfl
      have hmj := hE (j + 1) hk1 (Nat.le_refl _)
      rw [Nat.add_sub_cancel] at hmj
      have hcand := M.cand_of_maxB hk1 hlt hmj
      have hget := getD_some hlt
      have hext : ∀ n, Calls Tryd.prog 73 #[.slice (some ⟨b, off, none⟩) t.length ca, .slice (some ⟨B, 0, none⟩) t.length t.length, .int .i64 (E.getD j 0 : Nat), .int .u16 (t.getD (j + 1) 0 : Nat)] (wr.drewN n) fun e w' => ∃ r : Nat, e = .returned (.int .i64 (r : Nat)) ∧ M.MaxB t (j + 1 + 1) r ∧ ∃ m, w' = wr.drewN m := fun n => by
        have hown' : wr.ownsRow B 3 1 (.slice (some ⟨B, 0, none⟩) E.length t.length) E.length (E.map i64v) := by rw [hEl]; exact hown
        have hri := (readsI_own hown').same (below_drewN' wr.heap.size wr n)
        rw [hEl] at hri
        refine (extend_any _ _ t E _ (j + 1) _ (t.getD (j + 1) 0) hlen (wr.drewN n) (((unhide HT).same (by rw [hgg]; exact hB)).same (below_drewN' _ _ _)) hri (by omega) hE (by have := hmj.1; omega) hcand).mono ?_
        rintro e w' ⟨r, rfl, h1, h2, m, rfl⟩
        exact ⟨r, rfl, M.maxB_of hk1 hget h1 h2, n + m, by simp⟩
      have HEXT := hide hext; clear hext
      have hfr := hown.frozenAt (j + 1)
      have hj0 : (0 : Int) ≤ (j : Int) := by omega
      have hj1 : (j : Int) < (t.length : Int) := by omega
      have hj2 : (0 : Int) ≤ (j : Int) + 1 := by omega
      have hwr : IntKind.i64.wrap ((j : Int) + 1 - 1) = (j : Int) := by rw [IntKind.wrap_i64]; omega
      have hwr2 : IntKind.i64.wrap (j : Int) = (j : Int) := by rw [IntKind.wrap_i64]; omega
      have HE := hide hE; have HCD := hide hcand; have HMJ := hide hmj; have HG := hide hget; clear hE hcand hmj hget
      have HCT := hide hcell; clear hcell
      generalize t.getD (j + 1) 0 = u at *
      generalize hev : E.getD j 0 = ev at *
      generalize hold : E.getD (j + 1) 0 = old at *
      have HEV := hide hev; have HOLD := hide hold; clear hev hold
      have hsj : ∀ m v, ((wr.drewN m).setCell ⟨B, j + 1, none⟩ v).cell? ⟨B, j, none⟩ = some (.int .i64 (ev : Int)) := fun m v => by
        have h1 := (World.ownsRow.stored (w := wr.drewN m) hown (j + 1) v).1
        rw [h1.cellAt j (by omega), List.getElem?_set_ne (by omega), List.getElem?_map, getD_some (by omega), unhide HEV]; rfl
      have hst : ∀ m r, ((wr.drewN m).setCell ⟨B, j + 1, none⟩ (.int .i64 (r : Nat))).ownsRow B 3 1 (.slice (some ⟨B, 0, none⟩) t.length t.length) t.length ((E.set (j + 1) r).map i64v) := fun m r => by
        have h1 := (World.ownsRow.stored (w := wr.drewN m) hown (j + 1) (.int .i64 (r : Nat))).1
        rw [List.map_set]; exact h1
      have HSJ := hide hsj; have HSTO := hide hst; clear hsj hst
      go_wp2
      go_region_held3 (fun X => X.cell? ⟨b, off + (j + 1), none⟩ = some (.int .u16 (u : Int)) ∧ X.cell? ⟨B, j, none⟩ = some (.int .i64 (ev : Int))) (first | go_keep | (exact ⟨(((Below.refl B (wr.drewN m)).setCell (p := ⟨B, j + 1, none⟩) (Nat.le_refl _) _).cell (p := ⟨b, off + (j + 1), none⟩) hblt).trans hct, unhide HSJ _ _⟩))
        ((go_at_call 73; refine (unhide HEXT 1).mono ?_; rintro e w' ⟨r, rfl, hmb, m, rfl⟩))
      go_wp2
      go_roundw
      case rel =>
        refine ⟨j + 1 + 1, E.set (j + 1) r, by go_num, by omega, by omega, by rw [List.length_set]; exact hEl, unhide HSTO m r, fun i h1 h2 => ?_, (hB.trans (below_drewN' _ _ _)).setCell (p := ⟨B, j + 1, none⟩) (Nat.le_refl _) _⟩
        by_cases hi : i = j + 1 + 1
        · subst hi
          have e : (E.set (j + 1) r).getD (j + 1 + 1 - 1) 0 = r := by
            rw [List.getD_eq_getElem?_getD, Nat.add_sub_cancel, List.getElem?_set_self (by omega)]; rfl
          rw [e]; exact hmb
        · have e : (E.set (j + 1) r).getD (i - 1) 0 = E.getD (i - 1) 0 := by
            rw [List.getD_eq_getElem?_getD, List.getElem?_set_ne (by omega), ← List.getD_eq_getElem?_getD]
          rw [e]; exact unhide HE i h1 (by omega)
      case measure => simp [intOf]; omega
    · have hlt' : ¬ (k : Int) < (t.length : Int) := by omega
      have hke : k = t.length := by omega
      have HKE := hide hke; clear hke
      go_wp2
      go_ret
      refine ⟨_, rfl, E, ?_, hEl, fun i h1 h2 => hE i h1 (by rw [unhide HKE]; exact h2), hB⟩
      have hown' : wr.ownsRow B 3 1 (.slice (some ⟨B, 0, none⟩) E.length t.length) E.length (E.map i64v) := by rw [hEl]; exact hown
      have := readsI_own hown'
      rw [hEl] at this
      exact this
end Go.Proofs.YtakenhaieblikaaDoor
