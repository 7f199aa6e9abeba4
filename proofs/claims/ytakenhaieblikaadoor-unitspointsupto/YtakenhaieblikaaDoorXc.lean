import Derived.Test.YtakenhaieblikaaDoorXb
namespace Go.Proofs.YtakenhaieblikaaDoor
open Go.RowKit Go.Shelf

theorem refLen_any (s : ByteArray) (hsz : s.size ≤ 1099511627776) (w : World) :
    Calls Tryd.prog 12 #[.string s] w fun e w' => e = .returned (.tuple #[.int .i64 ((unS s).length : Nat), .int .i64 (erS s)]) ∧ Below w.heap.size w w' := by
  have HU := hide (refUnits_any s hsz w)
  have hl := unS_len s
  generalize erS s = er at *
  generalize unS s = l at *
  go_enter Tryd.func12, Tryd.ntmps12
  go_wp2_with fail
  refine (unhide HU).mono ?_
  rintro e w1 ⟨v, rfl, hown, hb⟩
  obtain ⟨A, cap, rfl, _⟩ := reads_open (reads_own hown)
  go_wp2
  go_ret2
  exact ⟨rfl, hb⟩

/-- The code points of a string. -/
def csS (s : ByteArray) : List Nat := M.row (unS s)
theorem csS_has {s : ByteArray} (h : vS s = true) : Has s (csS s) := of_has (unS_small s) (un_ok h)
theorem csS_len (s : ByteArray) : (csS s).length ≤ s.size := by
  have h1 := unS_len s
  have h2 : ∀ cs : List Nat, cs.length ≤ (cs.flatMap M.U).length := by
    intro cs
    induction cs with
    | nil => simp
    | cons c r ih =>
      have : 1 ≤ (M.U c).length := by unfold M.U; split <;> simp
      simp only [List.flatMap_cons, List.length_append, List.length_cons]; omega
  have := h2 (M.row (unS s))
  rw [(M.row_props (unS s).length (unS s) (Nat.le_refl _) (unS_small s)).2.1] at this
  unfold csS; omega
theorem csS_small (s : ByteArray) : M.small (csS s) := (M.row_props (unS s).length (unS s) (Nat.le_refl _) (unS_small s)).1
/-- Row, as what its points' second cells read. -/
theorem rowC_any (v : Value) (s : ByteArray) (hsz : s.size ≤ 1099511627776) (w : World) (hR : Reads w v (unS s)) :
    Calls Tryd.prog 34 #[v] w fun e w' => ∃ A cap, e = .returned (.slice A (csS s).length cap) ∧ (∀ i, i < (csS s).length → ∃ g, A = some ⟨g, 0, none⟩ ∧ g < w'.heap.size ∧ w'.cell? ⟨g, i * 2 + 1, none⟩ = some (.int .i64 ((csS s).getD i 0 : Nat))) ∧ Below w.heap.size w w' := by
  have hul := unS_len s
  refine (row_any v (unS s) (unS_small s) (by omega) w hR).mono ?_
  rintro e w1 ⟨vp, rfl, hown, hb⟩
  have hsnd := rowP_snd (unS s).length 0 (unS s) (Nat.le_refl _)
  unfold csS
  rw [← hsnd]
  generalize rowP 0 (unS s) = rp at *
  rw [List.length_map]
  rcases hown.2 with ⟨rfl, h0⟩ | ⟨g, cap, cur, rfl, hBg, hgb, hnc, hcm, hcs, htk⟩
  · exact ⟨none, 0, by rw [h0], fun i hi => by omega, hb⟩
  · refine ⟨_, _, rfl, fun i hi => ⟨g, rfl, (Array.getElem?_eq_some_iff.1 hgb).1, ?_⟩, hb⟩
    rw [hown.cellAt (i * 2 + 1) (by omega), (ptCells_get rp i hi).1, List.getD_eq_getElem?_getD, List.getElem?_map, List.getElem?_eq_getElem hi]
    rfl
def wrB (s : ByteArray) : Bool := vS s && allB (csS s)

set_option maxHeartbeats 2000000 in
set_option maxRecDepth 100000 in
theorem refWell_any (s : ByteArray) (hsz : s.size ≤ 1099511627776) (w : World) :
    Calls Tryd.prog 14 #[.string s] w fun e w' => e = .returned (.tuple #[.bool (wrB s), .int .i64 (erS s)]) ∧ Below w.heap.size w w' := by
  have HU := hide (refUnits_any s hsz w)
  have HRO := hide (fun v w hR => rowC_any v s hsz w hR)
  have hcl := csS_len s
  cases hv : vS s with
  | false =>
    have h1 : wrB s = false := by unfold wrB; rw [hv]; rfl
    rw [h1]
    rw [erS_bad' hv] at HU ⊢
    clear h1 hv
    go_enter Tryd.func14, Tryd.ntmps14
    go_wp2_with fail
    refine (unhide HU).mono ?_
    rintro e w1 ⟨v, rfl, hown, hb⟩
    go_wp2
    go_ret2
    exact ⟨rfl, hb⟩
  | true =>
    have h1 : wrB s = allB (csS s) := by unfold wrB; rw [hv]; rfl
    rw [h1]
    rw [erS_ok' hv] at HU ⊢
    clear h1 hv
    have hne : ∀ k, k < (csS s).length → M.isSu ((csS s).getD k 0) = true → allB (csS s) = false := fun k hk h => by
      unfold allB
      rw [Bool.eq_false_iff]
      intro e
      rw [List.all_eq_true] at e
      have := e ((csS s).getD k 0) (by rw [List.getD_eq_getElem?_getD, List.getElem?_eq_getElem hk]; exact List.getElem_mem hk)
      rw [h] at this; cases this
    have hal : (∀ k, k < (csS s).length → M.isSu ((csS s).getD k 0) = false) → allB (csS s) = true := fun h => by
      unfold allB
      rw [List.all_eq_true]
      intro c hc
      obtain ⟨k, hk, rfl⟩ := List.getElem_of_mem hc
      have := h k hk
      rw [List.getD_eq_getElem?_getD, List.getElem?_eq_getElem hk] at this
      simpa using this
    generalize allB (csS s) = AB at *
    generalize csS s = cs at *
    have HNE := hide hne; have HAL := hide hal; clear hne hal
    go_enter Tryd.func14, Tryd.ntmps14
    go_wp2_with fail
    refine (unhide HU).mono ?_
    rintro e w1 ⟨v, rfl, hown, hb⟩
    have hrd := reads_own hown
    clear hown
    have HRD := hide hrd; clear hrd
    go_wp2_with fail
    refine (unhide HRO v w1 (unhide HRD)).mono ?_
    rintro e w2 ⟨A, cap, rfl, hA, hb2⟩
    have hB2 := hb.trans (hb2.mono hb.size)
    have HA := hide hA; clear hA
    go_wp2
    go_loopw [7] (fun i wr => ∃ (k n : Nat), i = .int .i64 (k : Nat) ∧ k ≤ cs.length ∧ (∀ j, j < k → M.isSu (cs.getD j 0) = false) ∧ wr = w2.drewN n) (fun i _ => cs.length - (intOf i).toNat)
    case atStart => exact ⟨0, 0, rfl, Nat.zero_le _, fun j hj => by omega, rfl⟩
    case round =>
      obtain ⟨k, n, rfl, hk, hj, rfl⟩ := hrel
      have HJ := hide hj; clear hj
      by_cases hlt : k < cs.length
      · have hlt' : (k : Int) < (cs.length : Int) := by omega
        obtain ⟨g, rfl, hg, hcell⟩ := unhide HA k hlt
        have hn1 := unhide HNE k hlt
        have hjj : M.isSu (cs.getD k 0) = false → ∀ j, j < k + 1 → M.isSu (cs.getD j 0) = false := fun h j hj => by
          by_cases e : j = k
          · subst e; exact h
          · exact unhide HJ j (by omega)
        have HN1 := hide hn1; have HJJ := hide hjj; clear hn1 hjj
        generalize cs.getD k 0 = c at *
        have hsu : M.isSu c = (decide (55296 ≤ c) && decide (c ≤ 57343)) := rfl
        by_cases h1 : 55296 ≤ c
        · by_cases h2 : c ≤ 57343
          · have h1' : (55296 : Int) ≤ (c : Int) := by omega
            have h2' : (c : Int) ≤ 57343 := by omega
            have hAB := unhide HN1 (by rw [hsu]; simp [h1, h2])
            clear hsu
            go_wp2
            go_ret2
            exact ⟨by first | rfl | (rw [hAB]; rfl), hB2.trans (below_drewN' _ _ _)⟩
          · have h1' : (55296 : Int) ≤ (c : Int) := by omega
            have h2' : ¬ (c : Int) ≤ 57343 := by omega
            have hAB := unhide HJJ (by rw [hsu]; simp [h1, h2])
            have HAB := hide hAB; clear hsu hAB
            go_wp2
            go_roundw
            case rel => exact ⟨k + 1, n, by go_num, by omega, unhide HAB, rfl⟩
            case measure => simp [intOf]; omega
        · have h1' : ¬ (55296 : Int) ≤ (c : Int) := by omega
          have hAB := unhide HJJ (by rw [hsu]; simp [h1])
          have HAB := hide hAB; clear hsu hAB
          go_wp2
          go_roundw
          case rel => exact ⟨k + 1, n, by go_num, by omega, unhide HAB, rfl⟩
          case measure => simp [intOf]; omega
      · have hlt' : ¬ (k : Int) < (cs.length : Int) := by omega
        have hAB := unhide HAL (fun j hj => unhide HJ j (by omega))
        go_wp2
        go_ret2
        exact ⟨by first | rfl | (rw [hAB]; rfl), hB2.trans (below_drewN' _ _ _)⟩

def txL (s : ByteArray) : List Nat := if vS s then ((csS s).map M.rep).flatMap M.E else []
set_option maxHeartbeats 2000000 in
set_option maxRecDepth 100000 in
theorem refText_any (s : ByteArray) (hsz : s.size ≤ 1099511627776) (w : World) :
    Calls Tryd.prog 10 #[.string s] w fun e w' => ∃ t, e = .returned (.tuple #[.string t, .int .i64 (erS s)]) ∧ nums t = txL s ∧ Below w.heap.size w w' := by
  have HU := hide (refUnits_any s hsz w)
  have HRO := hide (fun v w hR => rowC_any v s hsz w hR)
  have hcl := csS_len s
  have hsm := csS_small s
  cases hv : vS s with
  | false =>
    have h1 : txL s = [] := by unfold txL; rw [hv]; rfl
    rw [h1]
    rw [erS_bad' hv] at HU ⊢
    clear h1 hv
    go_enter Tryd.func10, Tryd.ntmps10
    go_wp2_with fail
    refine (unhide HU).mono ?_
    rintro e w1 ⟨v, rfl, hown, hb⟩
    go_wp2
    go_ret2
    exact ⟨_, rfl, rfl, hb⟩
  | true =>
    have h1 : txL s = ((csS s).map M.rep).flatMap M.E := by unfold txL; rw [hv]; rfl
    rw [h1]
    rw [erS_ok' hv] at HU ⊢
    clear h1 hv
    generalize csS s = cs at *
    have hsk : ∀ k, k < cs.length → cs.getD k 0 ≤ 1114111 := fun k hk => hsm _ (by rw [List.getD_eq_getElem?_getD, List.getElem?_eq_getElem hk]; exact List.getElem_mem hk)
    have HSK := hide hsk; have HSM := hide hsm; clear hsk hsm
    go_enter Tryd.func10, Tryd.ntmps10
    go_wp2_with fail
    refine (unhide HU).mono ?_
    rintro e w1 ⟨v, rfl, hown, hb⟩
    have HRD := hide (reads_own hown); clear hown
    go_wp2_with fail
    refine (unhide HRO v w1 (unhide HRD)).mono ?_
    rintro e w2 ⟨A, cap, rfl, hA, hb2⟩
    have hB2 := hb.trans (hb2.mono hb.size)
    have HA := hide hA; clear hA
    go_wp2
    go_loopw [6, 8] (fun b i wr => ∃ (k n : Nat) (vb : Value), b = vb ∧ i = .int .i64 (k : Nat) ∧ k ≤ cs.length ∧ n ≤ 4 * k ∧ wr.ownsRow w2.heap.size 5 1 vb n ((((cs.take k).map M.rep).flatMap M.E).map u8v) ∧ Below w2.heap.size w2 wr) (fun _ i _ => cs.length - (intOf i).toNat)
    case atStart => exact ⟨0, 0, _, rfl, rfl, by omega, by omega, World.ownsRow_nil _ _ _ _, Below.refl _ _⟩
    case round =>
      obtain ⟨k, n, vb, rfl, rfl, hk, hn, hownb, hB⟩ := hrel
      by_cases hlt : k < cs.length
      · obtain ⟨g, rfl, hglt, hcell⟩ := unhide HA k hlt
        have hlt' : (k : Int) < (cs.length : Int) := by omega
        have hcw : wr.cell? ⟨g, k * 2 + 1, none⟩ = some (.int .i64 (cs.getD k 0 : Nat)) := (hB.cell (p := ⟨g, k * 2 + 1, none⟩) hglt).trans hcell
        have hc := unhide HSK k hlt
        have htk : cs.take (k + 1) = cs.take k ++ [cs.getD k 0] := by
          rw [List.take_succ_eq_append_getElem hlt, List.getD_eq_getElem?_getD, List.getElem?_eq_getElem hlt]; rfl
        have HTK := hide htk; clear htk hcell
        generalize cs.getD k 0 = c at *
        by_cases h1 : 55296 ≤ c
        · by_cases h2 : c ≤ 57343
          · have h1' : (55296 : Int) ≤ (c : Int) := by omega
            have h2' : (c : Int) ≤ 57343 := by omega
            have hrp : M.rep c = 65533 := by unfold M.rep M.isSu; simp [h1, h2]
            have HRP := hide hrp; clear hrp
            have henc := put_any w2.heap.size n u6 _ 65533 (by omega) wr hownb (by omega) hB.size
            have HENC := hide henc; clear henc
            have hE4 := M.E_len 65533
            go_wp2_with fail
            refine (unhide HENC).mono ?_
            rintro e w3 ⟨vb2, rfl, hown2, hb3⟩
            go_wp2
            go_roundw
            case rel => exact ⟨k + 1, n + (M.E 65533).length, vb2, rfl, by go_num, by omega, by omega, by rw [unhide HTK, List.map_append, List.flatMap_append, List.map_append]; simpa [unhide HRP] using hown2, hB.trans hb3⟩
            case measure => simp [intOf]; omega
          · have h1' : (55296 : Int) ≤ (c : Int) := by omega
            have h2' : ¬ (c : Int) ≤ 57343 := by omega
            have hrp : M.rep c = c := by unfold M.rep M.isSu; simp [h2]
            have HRP := hide hrp; clear hrp
            have henc := put_any w2.heap.size n u6 _ c hc wr hownb (by omega) hB.size
            have HENC := hide henc; clear henc
            have hE4 := M.E_len c
            go_wp2_with fail
            refine (unhide HENC).mono ?_
            rintro e w3 ⟨vb2, rfl, hown2, hb3⟩
            go_wp2
            go_roundw
            case rel => exact ⟨k + 1, n + (M.E c).length, vb2, rfl, by go_num, by omega, by omega, by rw [unhide HTK, List.map_append, List.flatMap_append, List.map_append]; simpa [unhide HRP] using hown2, hB.trans hb3⟩
            case measure => simp [intOf]; omega
        · have h1' : ¬ (55296 : Int) ≤ (c : Int) := by omega
          have hrp : M.rep c = c := by unfold M.rep M.isSu; simp [h1]
          have HRP := hide hrp; clear hrp
          have henc := put_any w2.heap.size n u6 _ c hc wr hownb (by omega) hB.size
          have HENC := hide henc; clear henc
          have hE4 := M.E_len c
          go_wp2_with fail
          refine (unhide HENC).mono ?_
          rintro e w3 ⟨vb2, rfl, hown2, hb3⟩
          go_wp2
          go_roundw
          case rel => exact ⟨k + 1, n + (M.E c).length, vb2, rfl, by go_num, by omega, by omega, by rw [unhide HTK, List.map_append, List.flatMap_append, List.map_append]; simpa [unhide HRP] using hown2, hB.trans hb3⟩
          case measure => simp [intOf]; omega
      · have hlt' : ¬ (k : Int) < (cs.length : Int) := by omega
        obtain ⟨t, hconv, hns⟩ := run_str wr w2.heap.size n u6 (((cs.take k).map M.rep).flatMap M.E) hownb (fun x hx => by
          rw [List.mem_flatMap] at hx; obtain ⟨c, hc, hx⟩ := hx
          exact E_256 _ (rep_small cs (unhide HSM) c (List.mem_of_mem_take (by rw [← List.map_take]; exact hc))) x hx)
        have HNS := hide hns; clear hns
        go_wp2
        go_ret2
        refine ⟨t, rfl, ?_, hB2.trans (hB.mono hB2.size)⟩
        rw [unhide HNS, List.take_of_length_le (by omega)]
end Go.Proofs.YtakenhaieblikaaDoor
