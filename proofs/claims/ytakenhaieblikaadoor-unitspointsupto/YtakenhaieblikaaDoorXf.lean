import Derived.Test.YtakenhaieblikaaDoorXe
namespace Go.Proofs.YtakenhaieblikaaDoor
open Go.RowKit Go.Shelf

theorem wr_we (s : ByteArray) : wrB s = weB s := by
  unfold wrB weB
  cases hv : vS s with
  | false => rfl
  | true =>
    have h := csS_has hv
    rw [Bool.true_and, Bool.true_and]
    unfold allB
    exact (validD_flat (csS s) s.data.toList h.2.1 h.1).symm
set_option maxHeartbeats 1000000 in
set_option maxRecDepth 100000 in
theorem text_any (s : ByteArray) (hsz : s.size ≤ 1099511627776) (w : World) (hT : Lib.Utf8Tabs 0 1 w) :
    Calls Tryd.prog 9 #[.string s] w fun e w' => ∃ t, e = .returned (.tuple #[.string t, .int .i64 (erS s)]) ∧ nums t = txL s ∧ Below w.heap.size w w' := by
  cases hv : vS s with
  | false =>
    have hva := valid_v s false hv w hT
    have h1 : txL s = [] := by unfold txL; rw [hv]; rfl
    rw [h1, erS_bad' hv]
    have HV := hide hva; clear hva hv h1
    go_enter Tryd.func9, Tryd.ntmps9
    go_wp2_with fail
    refine (unhide HV).mono ?_
    rintro e w1 ⟨rfl, hb⟩
    go_wp2
    go_ret2
    exact ⟨_, rfl, rfl, hb⟩
  | true =>
    have h := csS_has hv
    obtain ⟨l, hl⟩ := cps (csS s) h.2.1
    refine (text_good s l (by rw [h.1, ← hl]; rfl) hv hsz w hT).mono ?_
    rintro e w' ⟨x, rfl, hx, hb⟩
    refine ⟨x, by rw [erS_ok' hv], ?_, hb⟩
    rw [hx, hl]; unfold txL; rw [hv]; rfl

set_option maxHeartbeats 4000000 in
set_option maxRecDepth 100000 in
theorem law_bytes (s : ByteArray) (hs : s.size ≤ 1048576) (w : World) (hT : Lib.Utf8Tabs 0 1 w) :
    Calls Tryd.prog 3 #[.string s] w fun e w' => e = .returned (.bool true) ∧ Below w.heap.size w w' := by
  have HT := hide hT; clear hT
  go_enter Tryd.func3, Tryd.ntmps3
  go_wp2_with fail
  refine (text_any s (by omega) w (unhide HT)).mono ?_
  rintro e w1 ⟨t, rfl, ht, hB1⟩
  have HTX := hide ht; clear ht
  go_wp2_with fail
  refine (refText_any s (by omega) w1).mono ?_
  rintro e w2 ⟨t2, rfl, ht2, hb2⟩
  have hB2 := hB1.trans (hb2.mono hB1.size)
  obtain rfl : t2 = t := nums_inj (ht2.trans (unhide HTX).symm)
  clear ht2 HTX
  go_wp2_with fail
  refine (len_any s (by omega) w2 (tabs_below (unhide HT) hB2)).mono ?_
  rintro e w3 ⟨rfl, hb3⟩
  have hB3 := hB2.trans (hb3.mono hB2.size)
  go_wp2_with fail
  refine (refLen_any s (by omega) w3).mono ?_
  rintro e w4 ⟨rfl, hb4⟩
  have hB4 := hB3.trans (hb4.mono hB3.size)
  go_wp2_with fail
  refine (well_any s (by omega) w4 (tabs_below (unhide HT) hB4)).mono ?_
  rintro e w5 ⟨rfl, hb5⟩
  have hB5 := hB4.trans (hb5.mono hB4.size)
  go_wp2_with fail
  refine (refWell_any s (by omega) w5).mono ?_
  rw [wr_we]
  rintro e w6 ⟨rfl, hb6⟩
  have hB6 := hB5.trans (hb6.mono hB5.size)
  go_wp2_with fail
  refine (valid_v s (vS s) rfl w6 (tabs_below (unhide HT) hB6)).mono ?_
  rintro e w7 ⟨rfl, hb7⟩
  have hB7 := hB6.trans (hb7.mono hB6.size)
  go_wp2_with fail
  refine (refValid_any s (by omega) w7).mono ?_
  rintro e w8 ⟨rfl, hb8⟩
  have hB8 := hB7.trans (hb8.mono hB7.size)
  go_wp2_with fail
  refine (fromText_any s (by omega) w8).mono ?_
  rintro e w9 ⟨u, rfl, hu, hb9⟩
  have hB9 := hB8.trans (hb9.mono hB8.size)
  have HU := hide hu; clear hu
  go_wp2_with fail
  refine (refFromText_any s (by omega) w9).mono ?_
  rintro e w10 ⟨u2, rfl, hu2, hb10⟩
  have hB10 := hB9.trans (hb10.mono hB9.size)
  obtain rfl : u2 = u := nums_inj (hu2.trans (unhide HU).symm)
  clear hu2 HU
  go_wp2
  go_ret
  exact ⟨by simp, hB10⟩
end Go.Proofs.YtakenhaieblikaaDoor
