import Derived.Test.YtmlofbgnoaobfaaDoorLm
namespace Go.Proofs.YtmlofbgnoaobfaaDoor
open Go Go.Proofs Go.RowKit
set_option linter.unusedSimpArgs false
set_option linter.unusedVariables false
set_option maxHeartbeats 20000000 in
set_option maxRecDepth 100000 in
theorem law_ft_long (A : Option Addr) (cap : Nat) (a b : KK) (l : List KK) (w : World) (hT : Lib.Utf8Tabs 2 3 w) (htab : TabP w) (hr : ReadsK w (.slice A l.length cap) l) (hc0 : ∀ c, Value.slice A l.length cap = .slice none 0 c → c = 0) (hga : goodK a = false) (hgb : goodK b = true) (hlong : 3000 < l.length) : Calls Tryd.prog 3 #[a.agg, b.agg, .slice A l.length cap] w fun e w' => e = .returned (.bool true) ∧ Below w.heap.size w w' := by
  have HC4 := hide (fun w hT => compare4 a.s b.s a.n b.n w hT)
  rw [agg_key, agg_key] at HC4
  have HGa := hide (refGoodK a)
  have HGb := hide (refGoodK b)
  have ea : (kVal a.s a.n).good = goodK a := rfl
  have eb : (kVal b.s b.n).good = goodK b := rfl
  rw [ea, eb, hga, hgb] at HC4
  rw [hga] at HGa
  rw [hgb] at HGb
  simp only [Bool.and_false, Bool.false_and, Bool.and_self, Bool.false_eq_true, if_false] at HC4
  clear ea eb hga hgb
  have HT := hide hT
  clear hT
  have HTP := hide htab
  have HV := hide hr
  have HC0 := hide hc0
  clear htab hr hc0
  have LL := hide (Kq.of2 w a b)
  have hlz : (3000 : Int) < l.length := by omega
  have hq0 : a.agg = .agg #[.string a.s, .int .i64 a.n] := rfl
  have hq1 : b.agg = .agg #[.string b.s, .int .i64 b.n] := rfl
  rw [hq0, hq1]
  clear hq0 hq1
  go_enter Tryd.func3, Tryd.ntmps3
  go_wp2_with (first | go_skip | ((with_reducible apply load23); (case ho => rfl); (case hw => rfl); (case hx => rfl); (case hc => first | exact (unhide LL).get 0 rfl | exact (unhide LL).get 1 rfl); simp only [Act.put, List.setIfInBounds_toArray, List.set_cons_succ, List.set_cons_zero]) | ((with_reducible apply load9); (case ho => rfl); (case hw => rfl); (case hx => rfl); (case hc => first | exact (unhide LL).get 0 rfl | exact (unhide LL).get 1 rfl); simp only [Act.put, List.setIfInBounds_toArray, List.set_cons_succ, List.set_cons_zero]) | ((with_reducible apply load3); (case ho => rfl); (case hw => rfl); (case hx => rfl); (case hc => first | exact (unhide LL).get 0 rfl | exact (unhide LL).get 1 rfl); simp only [Act.put, List.setIfInBounds_toArray, List.set_cons_succ, List.set_cons_zero]))
  refine (unhide HC4 _ (tabs_below (unhide HT) (unhide LL).below)).mono ?_
  rintro _ w1 ⟨rfl, hb⟩
  replace LL := hide ((unhide LL).on hb)
  clear hb
  go_wp2_with (first | go_skip | ((with_reducible apply load23); (case ho => rfl); (case hw => rfl); (case hx => rfl); (case hc => first | exact (unhide LL).get 0 rfl | exact (unhide LL).get 1 rfl); simp only [Act.put, List.setIfInBounds_toArray, List.set_cons_succ, List.set_cons_zero]) | ((with_reducible apply load9); (case ho => rfl); (case hw => rfl); (case hx => rfl); (case hc => first | exact (unhide LL).get 0 rfl | exact (unhide LL).get 1 rfl); simp only [Act.put, List.setIfInBounds_toArray, List.set_cons_succ, List.set_cons_zero]) | ((with_reducible apply load3); (case ho => rfl); (case hw => rfl); (case hx => rfl); (case hc => first | exact (unhide LL).get 0 rfl | exact (unhide LL).get 1 rfl); simp only [Act.put, List.setIfInBounds_toArray, List.set_cons_succ, List.set_cons_zero]))
  refine (unhide HGa _).mono ?_
  rintro _ w2 ⟨rfl, hb⟩
  replace LL := hide ((unhide LL).on hb)
  clear hb
  go_wp2_with (first | go_skip | ((with_reducible apply load23); (case ho => rfl); (case hw => rfl); (case hx => rfl); (case hc => first | exact (unhide LL).get 0 rfl | exact (unhide LL).get 1 rfl); simp only [Act.put, List.setIfInBounds_toArray, List.set_cons_succ, List.set_cons_zero]) | ((with_reducible apply load9); (case ho => rfl); (case hw => rfl); (case hx => rfl); (case hc => first | exact (unhide LL).get 0 rfl | exact (unhide LL).get 1 rfl); simp only [Act.put, List.setIfInBounds_toArray, List.set_cons_succ, List.set_cons_zero]) | ((with_reducible apply load3); (case ho => rfl); (case hw => rfl); (case hx => rfl); (case hc => first | exact (unhide LL).get 0 rfl | exact (unhide LL).get 1 rfl); simp only [Act.put, List.setIfInBounds_toArray, List.set_cons_succ, List.set_cons_zero]))
  refine (num7 5 _).mono ?_
  rintro _ _ ⟨rfl, rfl⟩
  go_wp2
  go_ret
  exact ⟨rfl, (unhide LL).below⟩
set_option maxHeartbeats 20000000 in
set_option maxRecDepth 100000 in
theorem law_ft_good (A : Option Addr) (cap : Nat) (a b : KK) (l : List KK) (w : World) (hT : Lib.Utf8Tabs 2 3 w) (htab : TabP w) (hr : ReadsK w (.slice A l.length cap) l) (hc0 : ∀ c, Value.slice A l.length cap = .slice none 0 c → c = 0) (hga : goodK a = false) (hgb : goodK b = true) (hlen : l.length ≤ 3000) (hall : l.all goodK = true) : Calls Tryd.prog 3 #[a.agg, b.agg, .slice A l.length cap] w fun e w' => e = .returned (.bool true) ∧ Below w.heap.size w w' := by
  have HC4 := hide (fun w hT => compare4 a.s b.s a.n b.n w hT)
  rw [agg_key, agg_key] at HC4
  have HGa := hide (refGoodK a)
  have HGb := hide (refGoodK b)
  have ea : (kVal a.s a.n).good = goodK a := rfl
  have eb : (kVal b.s b.n).good = goodK b := rfl
  rw [ea, eb, hga, hgb] at HC4
  rw [hga] at HGa
  rw [hgb] at HGb
  simp only [Bool.and_false, Bool.false_and, Bool.and_self, Bool.false_eq_true, if_false] at HC4
  clear ea eb hga hgb
  have HT := hide hT
  clear hT
  have HTP := hide htab
  have HV := hide hr
  have HC0 := hide hc0
  clear htab hr hc0
  have LL := hide (Kq.of2 w a b)
  have hlz : ¬ (3000 : Int) < l.length := by omega
  have hq0 : a.agg = .agg #[.string a.s, .int .i64 a.n] := rfl
  have hq1 : b.agg = .agg #[.string b.s, .int .i64 b.n] := rfl
  rw [hq0, hq1]
  clear hq0 hq1
  go_enter Tryd.func3, Tryd.ntmps3
  go_wp2_with (first | go_skip | ((with_reducible apply load23); (case ho => rfl); (case hw => rfl); (case hx => rfl); (case hc => first | exact (unhide LL).get 0 rfl | exact (unhide LL).get 1 rfl); simp only [Act.put, List.setIfInBounds_toArray, List.set_cons_succ, List.set_cons_zero]) | ((with_reducible apply load9); (case ho => rfl); (case hw => rfl); (case hx => rfl); (case hc => first | exact (unhide LL).get 0 rfl | exact (unhide LL).get 1 rfl); simp only [Act.put, List.setIfInBounds_toArray, List.set_cons_succ, List.set_cons_zero]) | ((with_reducible apply load3); (case ho => rfl); (case hw => rfl); (case hx => rfl); (case hc => first | exact (unhide LL).get 0 rfl | exact (unhide LL).get 1 rfl); simp only [Act.put, List.setIfInBounds_toArray, List.set_cons_succ, List.set_cons_zero]))
  refine (unhide HC4 _ (tabs_below (unhide HT) (unhide LL).below)).mono ?_
  rintro _ w1 ⟨rfl, hb⟩
  replace LL := hide ((unhide LL).on hb)
  clear hb
  go_wp2_with (first | go_skip | ((with_reducible apply load23); (case ho => rfl); (case hw => rfl); (case hx => rfl); (case hc => first | exact (unhide LL).get 0 rfl | exact (unhide LL).get 1 rfl); simp only [Act.put, List.setIfInBounds_toArray, List.set_cons_succ, List.set_cons_zero]) | ((with_reducible apply load9); (case ho => rfl); (case hw => rfl); (case hx => rfl); (case hc => first | exact (unhide LL).get 0 rfl | exact (unhide LL).get 1 rfl); simp only [Act.put, List.setIfInBounds_toArray, List.set_cons_succ, List.set_cons_zero]) | ((with_reducible apply load3); (case ho => rfl); (case hw => rfl); (case hx => rfl); (case hc => first | exact (unhide LL).get 0 rfl | exact (unhide LL).get 1 rfl); simp only [Act.put, List.setIfInBounds_toArray, List.set_cons_succ, List.set_cons_zero]))
  refine (unhide HGa _).mono ?_
  rintro _ w2 ⟨rfl, hb⟩
  replace LL := hide ((unhide LL).on hb)
  clear hb
  go_wp2_with (first | go_skip | ((with_reducible apply load23); (case ho => rfl); (case hw => rfl); (case hx => rfl); (case hc => first | exact (unhide LL).get 0 rfl | exact (unhide LL).get 1 rfl); simp only [Act.put, List.setIfInBounds_toArray, List.set_cons_succ, List.set_cons_zero]) | ((with_reducible apply load9); (case ho => rfl); (case hw => rfl); (case hx => rfl); (case hc => first | exact (unhide LL).get 0 rfl | exact (unhide LL).get 1 rfl); simp only [Act.put, List.setIfInBounds_toArray, List.set_cons_succ, List.set_cons_zero]) | ((with_reducible apply load3); (case ho => rfl); (case hw => rfl); (case hx => rfl); (case hc => first | exact (unhide LL).get 0 rfl | exact (unhide LL).get 1 rfl); simp only [Act.put, List.setIfInBounds_toArray, List.set_cons_succ, List.set_cons_zero]))
  refine (num7 5 _).mono ?_
  rintro _ _ ⟨rfl, rfl⟩
  have HB := hide (unhide LL).below
  have HB0 := HB
  clear LL
  have HL1 : Hid (([] : List KK).length + l.length ≤ 10000) := hide (by simp; omega)
  have HL2 : Hid ((([] : List KK) ++ l).length + [k7].length ≤ 10000) := hide (by simp; omega)
  go_wp2_with (first | go_skip | ((with_reducible apply kempty); (case ho => rfl); (case hw => rfl); (intro X9 k1 k2 k3; simp only [Act.put, List.setIfInBounds_toArray, List.set_cons_succ, List.set_cons_zero]; have HE := hide k1; have HEs := hide k3.size; replace HB := hide ((unhide HB).trans (k3.mono (unhide HB).size)); clear k1 k2 k3)) | ((with_reducible apply append_kf (l := []) (m := l)); (case hgd => rfl); (case ho => rfl); (case hs => rfl); (case hx => rfl); (case hown => exact unhide HE); (case hu => exact (unhide HV).on (unhide HB)); (case hcap => exact unhide HC0); (case hn => exact unhide HL1); (case hbase => exact unhide HEs); (intro v1 X1 k1 k2 k3; simp only [Act.put, List.setIfInBounds_toArray, List.set_cons_succ, List.set_cons_zero]; have HO1 := hide k1; replace HB := hide ((unhide HB).grown k2 (unhide HB).size (fun k hk => Nat.le_trans (unhide HB0).size ((unhide HE).own k hk).1)); have HG1 := hide k2; clear k1 k2 k3)) | ((with_reducible apply kbuild (d := k7)); (case ho => rfl); (case hw => rfl); (case hx => rfl); (intro X5 k1 k2 k3; simp only [Act.put, List.setIfInBounds_toArray, List.set_cons_succ, List.set_cons_zero]; have HC := hide k1; have HX5 := hide k3; replace HB := hide ((unhide HB).trans (k3.mono (unhide HB).size)); clear k1 k2 k3)) | ((with_reducible apply append_kf (l := [] ++ l) (m := [k7])); (case hgd => rfl); (case ho => rfl); (case hs => rfl); (case hx => rfl); (case hown => exact (unhide HO1).on (unhide HX5)); (case hu => exact unhide HC); (case hcap => exact (fun c hc => by cases hc)); (case hn => exact unhide HL2); (case hbase => exact Nat.le_trans (unhide HEs) (Nat.le_trans (unhide HG1).size (unhide HX5).size)); (intro v2 X2 k1 k2 k3; obtain ⟨g, c, rfl, hlc, hbg, hgl, hrw⟩ := own_some7 k1; simp only [Act.put, List.setIfInBounds_toArray, List.set_cons_succ, List.set_cons_zero]; replace HB := hide ((unhide HB).grown k2 (unhide HB).size (fun k hk => Nat.le_trans (unhide HB0).size ((unhide HO1).own k hk).1)); have HRW := hide hrw; clear k1 k2 k3 hrw)) | ((with_reducible apply kslh (b := g) (n := l.length + 1) (cap := c) (p := l.length)); (case ho => rfl); (case hw => rfl); (case hx => rfl); (case hix => rfl); (case hp => exact Nat.le_of_succ_le hlc); simp only [Act.put, List.setIfInBounds_toArray, List.set_cons_succ, List.set_cons_zero]))
  have HGW : Hid (RowsK X2 g 0 l ∧ g < X2.heap.size) := hide ⟨rows_prefix (unhide HRW), hgl⟩
  have H7 := hide (rows_last (unhide HRW))
  clear HRW HC HO1 HE HEs HG1 HX5
  have hbgw : w.heap.size ≤ g := Nat.le_trans (unhide HB0).size hbg
  refine (order8 (.slice (some ⟨g, 0, none⟩) l.length c) l _ (tabs_below (unhide HT) (unhide HB)) ((unhide HTP).on (unhide HB)) (.inr ⟨g, 0, c, rfl, (unhide HGW).2, (unhide HGW).1⟩) hlen).mono ?_
  rintro _ w4 ⟨vx, nx, rfl, hb4, hdx⟩
  have hgl4 := (unhide HGW).2
  have hd2x : nx = 0 ∧ OwnK w4 X2.heap.size vx (OL l) := by
    rcases hdx with h | h
    · exact h.2
    · rw [h.1] at hall
      cases hall
  obtain ⟨rfl, hoxx⟩ := hd2x
  clear hdx
  have HX := hide hoxx
  have HXb := hide (unhide HX).own
  have hbx : g < X2.heap.size := hgl
  clear hoxx
  replace HGW : Hid (RowsK w4 g 0 l ∧ g < w4.heap.size) := hide ⟨(unhide HGW).1.keep (hb4.block g (unhide HGW).2), Nat.lt_of_lt_of_le (unhide HGW).2 hb4.size⟩
  replace H7 : Hid (w4.cell? ⟨g, l.length * 2 + 1, none⟩ = some (.int .i64 (-7))) := hide (by rw [World.cell?_of_block (hb4.block g hgl4)]; exact unhide H7)
  replace HB := hide ((unhide HB).trans (hb4.mono (unhide HB).size))
  clear hb4
  go_wp2_with (first | go_skip | ((with_reducible apply kslh (b := g) (n := l.length + 1) (cap := c) (p := l.length)); (case ho => rfl); (case hw => rfl); (case hx => rfl); (case hix => rfl); (case hp => exact Nat.le_of_succ_le hlc); simp only [Act.put, List.setIfInBounds_toArray, List.set_cons_succ, List.set_cons_zero]))
  refine (order8 (.slice (some ⟨g, 0, none⟩) l.length c) l _ (tabs_below (unhide HT) (unhide HB)) ((unhide HTP).on (unhide HB)) (.inr ⟨g, 0, c, rfl, (unhide HGW).2, (unhide HGW).1⟩) hlen).mono ?_
  rintro _ w5 ⟨vy, ny, rfl, hb5, hdy⟩
  have hgl5 := (unhide HGW).2
  have hd2y : ny = 0 ∧ OwnK w5 w4.heap.size vy (OL l) := by
    rcases hdy with h | h
    · exact h.2
    · rw [h.1] at hall
      cases hall
  obtain ⟨rfl, hoxy⟩ := hd2y
  clear hdy
  have HY := hide hoxy
  have HYb := hide (unhide HY).own
  clear hoxy
  replace HGW : Hid (RowsK w5 g 0 l ∧ g < w5.heap.size) := hide ⟨(unhide HGW).1.keep (hb5.block g (unhide HGW).2), Nat.lt_of_lt_of_le (unhide HGW).2 hb5.size⟩
  replace H7 : Hid (w5.cell? ⟨g, l.length * 2 + 1, none⟩ = some (.int .i64 (-7))) := hide (by rw [World.cell?_of_block (hb5.block g hgl5)]; exact unhide H7)
  replace HX := hide ((unhide HX).on hb5)
  replace HB := hide ((unhide HB).trans (hb5.mono (unhide HB).size))
  clear hb5
  go_wp2_with fail
  refine (goods9 (.slice A l.length cap) l _ ((unhide HV).on (unhide HB)) hlen).mono ?_
  rintro _ w6 ⟨rfl, hb6⟩
  have hgl6 := (unhide HGW).2
  replace HGW : Hid (RowsK w6 g 0 l ∧ g < w6.heap.size) := hide ⟨(unhide HGW).1.keep (hb6.block g (unhide HGW).2), Nat.lt_of_lt_of_le (unhide HGW).2 hb6.size⟩
  replace H7 : Hid (w6.cell? ⟨g, l.length * 2 + 1, none⟩ = some (.int .i64 (-7))) := hide (by rw [World.cell?_of_block (hb6.block g hgl6)]; exact unhide H7)
  replace HX := hide ((unhide HX).on hb6)
  replace HY := hide ((unhide HY).on hb6)
  replace HB := hide ((unhide HB).trans (hb6.mono (unhide HB).size))
  clear hb6
  rw [hall]
  go_wp2_with fail
  refine (refOrder11 (.slice A l.length cap) l (fun k hk => List.all_eq_true.1 hall k hk) _ ((unhide HV).on (unhide HB)) hlen).mono ?_
  rintro _ w7 ⟨vz, rfl, hoz, hb7⟩
  have hgl7 := (unhide HGW).2
  have HZ : Hid (OwnK w7 w6.heap.size vz (OL l)) := hide hoz
  have HZb := hide (unhide HZ).own
  have HXl := hide (unhide HX).own
  clear hoz
  replace HGW : Hid (RowsK w7 g 0 l ∧ g < w7.heap.size) := hide ⟨(unhide HGW).1.keep (hb7.block g (unhide HGW).2), Nat.lt_of_lt_of_le (unhide HGW).2 hb7.size⟩
  replace H7 : Hid (w7.cell? ⟨g, l.length * 2 + 1, none⟩ = some (.int .i64 (-7))) := hide (by rw [World.cell?_of_block (hb7.block g hgl7)]; exact unhide H7)
  replace HX := hide ((unhide HX).on hb7)
  replace HY := hide ((unhide HY).on hb7)
  replace HB := hide ((unhide HB).trans (hb7.mono (unhide HB).size))
  clear hb7
  have hol := OL_len l hlen
  obtain ⟨A4, c4, hv4⟩ := own_slice (unhide HX)
  subst hv4
  go_wp2_with fail
  refine (num7 0 _).mono ?_
  rintro _ _ ⟨rfl, rfl⟩
  go_wp2_with fail
  refine (same10 (.slice A4 (OL l).length c4) (vz) (OL l) _ ((unhide HX).reads) ((unhide HZ).reads) (by omega)).mono ?_
  rintro _ w8 ⟨rfl, hb8⟩
  have hgl8 := (unhide HGW).2
  replace HGW : Hid (RowsK w8 g 0 l ∧ g < w8.heap.size) := hide ⟨(unhide HGW).1.keep (hb8.block g (unhide HGW).2), Nat.lt_of_lt_of_le (unhide HGW).2 hb8.size⟩
  replace H7 : Hid (w8.cell? ⟨g, l.length * 2 + 1, none⟩ = some (.int .i64 (-7))) := hide (by rw [World.cell?_of_block (hb8.block g hgl8)]; exact unhide H7)
  replace HX := hide ((unhide HX).on hb8)
  replace HY := hide ((unhide HY).on hb8)
  replace HZ := hide ((unhide HZ).on hb8)
  replace HB := hide ((unhide HB).trans (hb8.mono (unhide HB).size))
  clear hb8
  go_wp2_with fail
  refine (same10 (vy) (vz) (OL l) _ ((unhide HY).reads) ((unhide HZ).reads) (by omega)).mono ?_
  rintro _ w9 ⟨rfl, hb9⟩
  have hgl9 := (unhide HGW).2
  replace HGW : Hid (RowsK w9 g 0 l ∧ g < w9.heap.size) := hide ⟨(unhide HGW).1.keep (hb9.block g (unhide HGW).2), Nat.lt_of_lt_of_le (unhide HGW).2 hb9.size⟩
  replace H7 : Hid (w9.cell? ⟨g, l.length * 2 + 1, none⟩ = some (.int .i64 (-7))) := hide (by rw [World.cell?_of_block (hb9.block g hgl9)]; exact unhide H7)
  replace HX := hide ((unhide HX).on hb9)
  replace HY := hide ((unhide HY).on hb9)
  replace HZ := hide ((unhide HZ).on hb9)
  replace HB := hide ((unhide HB).trans (hb9.mono (unhide HB).size))
  clear hb9
  go_wp2_with (first | go_skip | ((with_reducible apply kslh (b := g) (n := l.length + 1) (cap := c) (p := l.length)); (case ho => rfl); (case hw => rfl); (case hx => rfl); (case hix => rfl); (case hp => exact Nat.le_of_succ_le hlc); simp only [Act.put, List.setIfInBounds_toArray, List.set_cons_succ, List.set_cons_zero]))
  refine (same10 (.slice (some ⟨g, 0, none⟩) l.length c) (.slice A l.length cap) (l) _ ((.inr ⟨g, 0, c, rfl, (unhide HGW).2, (unhide HGW).1⟩)) ((unhide HV).on (unhide HB)) (by omega)).mono ?_
  rintro _ w10 ⟨rfl, hb10⟩
  have hgl10 := (unhide HGW).2
  replace HGW : Hid (RowsK w10 g 0 l ∧ g < w10.heap.size) := hide ⟨(unhide HGW).1.keep (hb10.block g (unhide HGW).2), Nat.lt_of_lt_of_le (unhide HGW).2 hb10.size⟩
  replace H7 : Hid (w10.cell? ⟨g, l.length * 2 + 1, none⟩ = some (.int .i64 (-7))) := hide (by rw [World.cell?_of_block (hb10.block g hgl10)]; exact unhide H7)
  replace HX := hide ((unhide HX).on hb10)
  replace HY := hide ((unhide HY).on hb10)
  replace HZ := hide ((unhide HZ).on hb10)
  replace HB := hide ((unhide HB).trans (hb10.mono (unhide HB).size))
  clear hb10
  have hc7 := unhide H7
  have hc70 : w10.cell? ⟨g, 0 + l.length * 2 + 1, none⟩ = some (.int .i64 (-7)) := by rw [Nat.zero_add]; exact hc7
  go_wp2_with (first | go_skip | ((with_reducible apply kindex (j := l.length) (off := 0)); (case ho => rfl); (case hw => rfl); (case hx => rfl); (case hix => rfl); (case hj => exact Nat.lt_succ_self _); simp only [Act.put, List.setIfInBounds_toArray, List.set_cons_succ, List.set_cons_zero]))
  clear hc7 hc70
  obtain ⟨W6, hW6⟩ : ∃ W, W = w10 := ⟨_, rfl⟩
  by_cases h0 : (OL l).length = 0
  · rw [h0]
    go_loopg [16] 0 (fun gm s16 wr => s16 = .int .i64 0 ∧ Hid (Below W6.heap.size W6 wr))
    case atStart => exact ⟨rfl, hide (by rw [hW6]; exact Below.refl _ _)⟩
    case round =>
      obtain ⟨rfl, HR⟩ := hrel
      go_wp2_with fail
      refine (same10 vy vz (OL l) _ ((unhide HY).reads.on (hW6 ▸ unhide HR)) ((unhide HZ).reads.on (hW6 ▸ unhide HR)) (by omega)).mono ?_
      rintro _ w11 ⟨rfl, hb11⟩
      replace HR : Hid (Below W6.heap.size W6 w11) := hide ((unhide HR).trans (hb11.mono (unhide HR).size))
      go_wp2_with (first | go_skip | ((with_reducible apply kslh (b := g) (n := l.length + 1) (cap := c) (p := l.length)); (case ho => rfl); (case hw => rfl); (case hx => rfl); (case hix => rfl); (case hp => exact Nat.le_of_succ_le hlc); simp only [Act.put, List.setIfInBounds_toArray, List.set_cons_succ, List.set_cons_zero]))
      refine (same10 (.slice (some ⟨g, 0, none⟩) l.length c) (.slice A l.length cap) l _ (ReadsK.on (.inr ⟨g, 0, c, rfl, (unhide HGW).2, (unhide HGW).1⟩) (hW6 ▸ unhide HR)) ((unhide HV).on ((unhide HB).trans ((hW6 ▸ unhide HR).mono (unhide HB).size))) (by omega)).mono ?_
      rintro _ w12 ⟨rfl, hb12⟩
      go_wp2
      go_ret
      exact ⟨rfl, ((unhide HB).trans ((hW6 ▸ unhide HR).mono (unhide HB).size)).trans (hb12.mono (Nat.le_trans (unhide HB).size (by have := (unhide HR).size; rw [hW6] at this; exact this)))⟩
  · obtain ⟨gx, hA4, hxg⟩ : ∃ gx, A4 = some ⟨gx, 0, none⟩ ∧ gx < w10.heap.size := by
      rcases (unhide HX).form with ⟨_, h⟩ | ⟨gx, cx, e, _, _, h4, _⟩
      · rw [h] at h0
        exact absurd rfl h0
      · cases e
        exact ⟨gx, rfl, h4⟩
    subst hA4
    have HTx : Hid (ThereX W6 gx (OL l).length) := hide (by rw [hW6]; exact (unhide HX).thereX)
    have hgx : g ≠ gx := fun e => by have := ((unhide HXb) gx rfl).1; omega
    have hyx : ∀ k, vy.ownBlock = some k → k ≠ gx := fun k hk e => by have h1 := ((unhide HYb) k hk).1; have h2 := ((unhide HXb) gx rfl).2; omega
    have hzx : ∀ k, vz.ownBlock = some k → k ≠ gx := fun k hk e => by have h1 := ((unhide HZb) k hk).1; have h2 := ((unhide HXl) gx rfl).2; omega
    have HF : Hid (∀ X, W6.grownBy X (some gx) → ReadsK X vy (OL l) ∧ ReadsK X vz (OL l) ∧ ReadsK X (.slice (some ⟨g, 0, none⟩) l.length c) l ∧ ReadsK X (.slice A l.length cap) l ∧ Below w.heap.size w X) := hide (fun X hX => by
      subst hW6
      refine ⟨(unhide HY).reads.grown hX (fun k hk _ e => hyx k hk (by simpa using e)), (unhide HZ).reads.grown hX (fun k hk _ e => hzx k hk (by simpa using e)), ReadsK.grown (.inr ⟨g, 0, c, rfl, (unhide HGW).2, (unhide HGW).1⟩) hX (fun k hk _ e => ?_), ?_, ?_⟩
      · have h1 : g = k := by simpa [Value.ownBlock] using hk
        have h2 : k = gx := by simpa using e
        exact hgx (h1.trans h2)
      · have hB2 := (unhide HB).grown hX (unhide HB).size (fun k hk => by have := ((unhide HXb) gx rfl).1; have e : gx = k := (by simpa using hk); omega)
        exact (unhide HV).on hB2
      · exact (unhide HB).grown hX (unhide HB).size (fun k hk => by have := ((unhide HXb) gx rfl).1; have e : gx = k := (by simpa using hk); omega))
    go_loopg [16] (OL l).length (fun gm s16 wr => ∃ i : Nat, s16 = .int .i64 i ∧ i ≤ (OL l).length ∧ (OL l).length - i ≤ gm ∧ Hid (W6.grownBy wr (some gx) ∧ ThereX wr gx (OL l).length))
    case atStart => exact ⟨0, rfl, by omega, by omega, hide ⟨by rw [hW6]; exact ⟨rfl, rfl, rfl, Nat.le_refl _, fun _ _ _ => rfl⟩, by have := unhide HTx; rw [hW6] at this; exact this⟩⟩
    case round =>
      obtain ⟨i, rfl, hi, hgi, HX2⟩ := hrel
      by_cases hilt : i < (OL l).length
      · have hiz : (i : Int) < ((OL l).length : Int) := by omega
        go_wp2_with (first | go_skip | ((with_reducible apply kindex (j := i) (off := 0)); (case ho => rfl); (case hw => rfl); (case hx => rfl); (case hix => rfl); (case hj => exact hilt); simp only [Act.put, List.setIfInBounds_toArray, List.set_cons_succ, List.set_cons_zero]) | ((with_reducible apply kstoreAt (u := k9) (j := i) (n := (OL l).length)); (case ho => rfl); (case hw => rfl); (case hx => rfl); (case hy => rfl); (case hj => exact hilt); (case ht => exact (unhide HX2).2); (intro X9 hX9; simp only [Act.put, List.setIfInBounds_toArray, List.set_cons_succ, List.set_cons_zero]; have HX3 : Hid (W6.grownBy X9 (some gx) ∧ ThereX X9 gx (OL l).length) := hide ⟨by rw [hX9]; exact gb_setCells (unhide HX2).1, by rw [hX9]; exact ThereX.set _ _ _ (unhide HX2).2⟩; clear hX9)))
        go_roundg ((OL l).length - (i + 1))
        case measure => omega
        case rel => exact ⟨i + 1, by go_num, by omega, Nat.le_refl _, HX3⟩
      · have hiz : ¬ (i : Int) < ((OL l).length : Int) := by omega
        go_wp2_with fail
        refine (same10 vy vz (OL l) _ ((unhide HF _ (unhide HX2).1).1) ((unhide HF _ (unhide HX2).1).2.1) (by omega)).mono ?_
        rintro _ w11 ⟨rfl, hb11⟩
        have HBX := hide (unhide HF _ (unhide HX2).1)
        go_wp2_with (first | go_skip | ((with_reducible apply kslh (b := g) (n := l.length + 1) (cap := c) (p := l.length)); (case ho => rfl); (case hw => rfl); (case hx => rfl); (case hix => rfl); (case hp => exact Nat.le_of_succ_le hlc); simp only [Act.put, List.setIfInBounds_toArray, List.set_cons_succ, List.set_cons_zero]))
        refine (same10 (.slice (some ⟨g, 0, none⟩) l.length c) (.slice A l.length cap) l _ ((unhide HBX).2.2.1.on hb11) ((unhide HBX).2.2.2.1.on hb11) (by omega)).mono ?_
        rintro _ w12 ⟨rfl, hb12⟩
        go_wp2
        go_ret
        exact ⟨rfl, ((unhide HBX).2.2.2.2.trans (hb11.mono (unhide HBX).2.2.2.2.size)).trans (hb12.mono (Nat.le_trans (unhide HBX).2.2.2.2.size hb11.size))⟩
set_option maxHeartbeats 20000000 in
set_option maxRecDepth 100000 in
theorem law_ft_bad (A : Option Addr) (cap : Nat) (a b : KK) (l : List KK) (w : World) (hT : Lib.Utf8Tabs 2 3 w) (htab : TabP w) (hr : ReadsK w (.slice A l.length cap) l) (hc0 : ∀ c, Value.slice A l.length cap = .slice none 0 c → c = 0) (hga : goodK a = false) (hgb : goodK b = true) (hlen : l.length ≤ 3000) (hall : l.all goodK = false) : Calls Tryd.prog 3 #[a.agg, b.agg, .slice A l.length cap] w fun e w' => e = .returned (.bool true) ∧ Below w.heap.size w w' := by
  have HC4 := hide (fun w hT => compare4 a.s b.s a.n b.n w hT)
  rw [agg_key, agg_key] at HC4
  have HGa := hide (refGoodK a)
  have HGb := hide (refGoodK b)
  have ea : (kVal a.s a.n).good = goodK a := rfl
  have eb : (kVal b.s b.n).good = goodK b := rfl
  rw [ea, eb, hga, hgb] at HC4
  rw [hga] at HGa
  rw [hgb] at HGb
  simp only [Bool.and_false, Bool.false_and, Bool.and_self, Bool.false_eq_true, if_false] at HC4
  clear ea eb hga hgb
  have HT := hide hT
  clear hT
  have HTP := hide htab
  have HV := hide hr
  have HC0 := hide hc0
  clear htab hr hc0
  have LL := hide (Kq.of2 w a b)
  have hlz : ¬ (3000 : Int) < l.length := by omega
  have hq0 : a.agg = .agg #[.string a.s, .int .i64 a.n] := rfl
  have hq1 : b.agg = .agg #[.string b.s, .int .i64 b.n] := rfl
  rw [hq0, hq1]
  clear hq0 hq1
  go_enter Tryd.func3, Tryd.ntmps3
  go_wp2_with (first | go_skip | ((with_reducible apply load23); (case ho => rfl); (case hw => rfl); (case hx => rfl); (case hc => first | exact (unhide LL).get 0 rfl | exact (unhide LL).get 1 rfl); simp only [Act.put, List.setIfInBounds_toArray, List.set_cons_succ, List.set_cons_zero]) | ((with_reducible apply load9); (case ho => rfl); (case hw => rfl); (case hx => rfl); (case hc => first | exact (unhide LL).get 0 rfl | exact (unhide LL).get 1 rfl); simp only [Act.put, List.setIfInBounds_toArray, List.set_cons_succ, List.set_cons_zero]) | ((with_reducible apply load3); (case ho => rfl); (case hw => rfl); (case hx => rfl); (case hc => first | exact (unhide LL).get 0 rfl | exact (unhide LL).get 1 rfl); simp only [Act.put, List.setIfInBounds_toArray, List.set_cons_succ, List.set_cons_zero]))
  refine (unhide HC4 _ (tabs_below (unhide HT) (unhide LL).below)).mono ?_
  rintro _ w1 ⟨rfl, hb⟩
  replace LL := hide ((unhide LL).on hb)
  clear hb
  go_wp2_with (first | go_skip | ((with_reducible apply load23); (case ho => rfl); (case hw => rfl); (case hx => rfl); (case hc => first | exact (unhide LL).get 0 rfl | exact (unhide LL).get 1 rfl); simp only [Act.put, List.setIfInBounds_toArray, List.set_cons_succ, List.set_cons_zero]) | ((with_reducible apply load9); (case ho => rfl); (case hw => rfl); (case hx => rfl); (case hc => first | exact (unhide LL).get 0 rfl | exact (unhide LL).get 1 rfl); simp only [Act.put, List.setIfInBounds_toArray, List.set_cons_succ, List.set_cons_zero]) | ((with_reducible apply load3); (case ho => rfl); (case hw => rfl); (case hx => rfl); (case hc => first | exact (unhide LL).get 0 rfl | exact (unhide LL).get 1 rfl); simp only [Act.put, List.setIfInBounds_toArray, List.set_cons_succ, List.set_cons_zero]))
  refine (unhide HGa _).mono ?_
  rintro _ w2 ⟨rfl, hb⟩
  replace LL := hide ((unhide LL).on hb)
  clear hb
  go_wp2_with (first | go_skip | ((with_reducible apply load23); (case ho => rfl); (case hw => rfl); (case hx => rfl); (case hc => first | exact (unhide LL).get 0 rfl | exact (unhide LL).get 1 rfl); simp only [Act.put, List.setIfInBounds_toArray, List.set_cons_succ, List.set_cons_zero]) | ((with_reducible apply load9); (case ho => rfl); (case hw => rfl); (case hx => rfl); (case hc => first | exact (unhide LL).get 0 rfl | exact (unhide LL).get 1 rfl); simp only [Act.put, List.setIfInBounds_toArray, List.set_cons_succ, List.set_cons_zero]) | ((with_reducible apply load3); (case ho => rfl); (case hw => rfl); (case hx => rfl); (case hc => first | exact (unhide LL).get 0 rfl | exact (unhide LL).get 1 rfl); simp only [Act.put, List.setIfInBounds_toArray, List.set_cons_succ, List.set_cons_zero]))
  refine (num7 5 _).mono ?_
  rintro _ _ ⟨rfl, rfl⟩
  have HB := hide (unhide LL).below
  have HB0 := HB
  clear LL
  have HL1 : Hid (([] : List KK).length + l.length ≤ 10000) := hide (by simp; omega)
  have HL2 : Hid ((([] : List KK) ++ l).length + [k7].length ≤ 10000) := hide (by simp; omega)
  go_wp2_with (first | go_skip | ((with_reducible apply kempty); (case ho => rfl); (case hw => rfl); (intro X9 k1 k2 k3; simp only [Act.put, List.setIfInBounds_toArray, List.set_cons_succ, List.set_cons_zero]; have HE := hide k1; have HEs := hide k3.size; replace HB := hide ((unhide HB).trans (k3.mono (unhide HB).size)); clear k1 k2 k3)) | ((with_reducible apply append_kf (l := []) (m := l)); (case hgd => rfl); (case ho => rfl); (case hs => rfl); (case hx => rfl); (case hown => exact unhide HE); (case hu => exact (unhide HV).on (unhide HB)); (case hcap => exact unhide HC0); (case hn => exact unhide HL1); (case hbase => exact unhide HEs); (intro v1 X1 k1 k2 k3; simp only [Act.put, List.setIfInBounds_toArray, List.set_cons_succ, List.set_cons_zero]; have HO1 := hide k1; replace HB := hide ((unhide HB).grown k2 (unhide HB).size (fun k hk => Nat.le_trans (unhide HB0).size ((unhide HE).own k hk).1)); have HG1 := hide k2; clear k1 k2 k3)) | ((with_reducible apply kbuild (d := k7)); (case ho => rfl); (case hw => rfl); (case hx => rfl); (intro X5 k1 k2 k3; simp only [Act.put, List.setIfInBounds_toArray, List.set_cons_succ, List.set_cons_zero]; have HC := hide k1; have HX5 := hide k3; replace HB := hide ((unhide HB).trans (k3.mono (unhide HB).size)); clear k1 k2 k3)) | ((with_reducible apply append_kf (l := [] ++ l) (m := [k7])); (case hgd => rfl); (case ho => rfl); (case hs => rfl); (case hx => rfl); (case hown => exact (unhide HO1).on (unhide HX5)); (case hu => exact unhide HC); (case hcap => exact (fun c hc => by cases hc)); (case hn => exact unhide HL2); (case hbase => exact Nat.le_trans (unhide HEs) (Nat.le_trans (unhide HG1).size (unhide HX5).size)); (intro v2 X2 k1 k2 k3; obtain ⟨g, c, rfl, hlc, hbg, hgl, hrw⟩ := own_some7 k1; simp only [Act.put, List.setIfInBounds_toArray, List.set_cons_succ, List.set_cons_zero]; replace HB := hide ((unhide HB).grown k2 (unhide HB).size (fun k hk => Nat.le_trans (unhide HB0).size ((unhide HO1).own k hk).1)); have HRW := hide hrw; clear k1 k2 k3 hrw)) | ((with_reducible apply kslh (b := g) (n := l.length + 1) (cap := c) (p := l.length)); (case ho => rfl); (case hw => rfl); (case hx => rfl); (case hix => rfl); (case hp => exact Nat.le_of_succ_le hlc); simp only [Act.put, List.setIfInBounds_toArray, List.set_cons_succ, List.set_cons_zero]))
  have HGW : Hid (RowsK X2 g 0 l ∧ g < X2.heap.size) := hide ⟨rows_prefix (unhide HRW), hgl⟩
  have H7 := hide (rows_last (unhide HRW))
  clear HRW HC HO1 HE HEs HG1 HX5
  have hbgw : w.heap.size ≤ g := Nat.le_trans (unhide HB0).size hbg
  refine (order8 (.slice (some ⟨g, 0, none⟩) l.length c) l _ (tabs_below (unhide HT) (unhide HB)) ((unhide HTP).on (unhide HB)) (.inr ⟨g, 0, c, rfl, (unhide HGW).2, (unhide HGW).1⟩) hlen).mono ?_
  rintro _ w4 ⟨vx, nx, rfl, hb4, hdx⟩
  have hgl4 := (unhide HGW).2
  have hd2x : nx = 5 ∧ vx = .slice none 0 0 := by
    rcases hdx with h | h
    · rw [h.1] at hall
      cases hall
    · exact h.2
  obtain ⟨rfl, rfl⟩ := hd2x
  clear hdx
  replace HGW : Hid (RowsK w4 g 0 l ∧ g < w4.heap.size) := hide ⟨(unhide HGW).1.keep (hb4.block g (unhide HGW).2), Nat.lt_of_lt_of_le (unhide HGW).2 hb4.size⟩
  replace H7 : Hid (w4.cell? ⟨g, l.length * 2 + 1, none⟩ = some (.int .i64 (-7))) := hide (by rw [World.cell?_of_block (hb4.block g hgl4)]; exact unhide H7)
  replace HB := hide ((unhide HB).trans (hb4.mono (unhide HB).size))
  clear hb4
  go_wp2_with (first | go_skip | ((with_reducible apply kslh (b := g) (n := l.length + 1) (cap := c) (p := l.length)); (case ho => rfl); (case hw => rfl); (case hx => rfl); (case hix => rfl); (case hp => exact Nat.le_of_succ_le hlc); simp only [Act.put, List.setIfInBounds_toArray, List.set_cons_succ, List.set_cons_zero]))
  refine (order8 (.slice (some ⟨g, 0, none⟩) l.length c) l _ (tabs_below (unhide HT) (unhide HB)) ((unhide HTP).on (unhide HB)) (.inr ⟨g, 0, c, rfl, (unhide HGW).2, (unhide HGW).1⟩) hlen).mono ?_
  rintro _ w5 ⟨vy, ny, rfl, hb5, hdy⟩
  have hgl5 := (unhide HGW).2
  have hd2y : ny = 5 ∧ vy = .slice none 0 0 := by
    rcases hdy with h | h
    · rw [h.1] at hall
      cases hall
    · exact h.2
  obtain ⟨rfl, rfl⟩ := hd2y
  clear hdy
  replace HGW : Hid (RowsK w5 g 0 l ∧ g < w5.heap.size) := hide ⟨(unhide HGW).1.keep (hb5.block g (unhide HGW).2), Nat.lt_of_lt_of_le (unhide HGW).2 hb5.size⟩
  replace HB := hide ((unhide HB).trans (hb5.mono (unhide HB).size))
  clear hb5
  go_wp2_with fail
  refine (goods9 (.slice A l.length cap) l _ ((unhide HV).on (unhide HB)) hlen).mono ?_
  rintro _ w6 ⟨rfl, hb6⟩
  have hgl6 := (unhide HGW).2
  replace HGW : Hid (RowsK w6 g 0 l ∧ g < w6.heap.size) := hide ⟨(unhide HGW).1.keep (hb6.block g (unhide HGW).2), Nat.lt_of_lt_of_le (unhide HGW).2 hb6.size⟩
  replace HB := hide ((unhide HB).trans (hb6.mono (unhide HB).size))
  clear hb6
  rw [hall]
  go_wp2_with fail
  refine (num7 5 _).mono ?_
  rintro _ _ ⟨rfl, rfl⟩
  go_wp2_with (first | go_skip | ((with_reducible apply kslh (b := g) (n := l.length + 1) (cap := c) (p := l.length)); (case ho => rfl); (case hw => rfl); (case hx => rfl); (case hix => rfl); (case hp => exact Nat.le_of_succ_le hlc); simp only [Act.put, List.setIfInBounds_toArray, List.set_cons_succ, List.set_cons_zero]))
  refine (same10 (.slice (some ⟨g, 0, none⟩) l.length c) (.slice A l.length cap) l _ (.inr ⟨g, 0, c, rfl, (unhide HGW).2, (unhide HGW).1⟩) ((unhide HV).on (unhide HB)) (by omega)).mono ?_
  rintro _ w7 ⟨rfl, hb7⟩
  replace HB := hide ((unhide HB).trans (hb7.mono (unhide HB).size))
  go_wp2
  go_ret
  exact ⟨rfl, unhide HB⟩
set_option maxHeartbeats 20000000 in
set_option maxRecDepth 100000 in
theorem law_ff_long (A : Option Addr) (cap : Nat) (a b : KK) (l : List KK) (w : World) (hT : Lib.Utf8Tabs 2 3 w) (htab : TabP w) (hr : ReadsK w (.slice A l.length cap) l) (hc0 : ∀ c, Value.slice A l.length cap = .slice none 0 c → c = 0) (hga : goodK a = false) (hgb : goodK b = false) (hlong : 3000 < l.length) : Calls Tryd.prog 3 #[a.agg, b.agg, .slice A l.length cap] w fun e w' => e = .returned (.bool true) ∧ Below w.heap.size w w' := by
  have HC4 := hide (fun w hT => compare4 a.s b.s a.n b.n w hT)
  rw [agg_key, agg_key] at HC4
  have HGa := hide (refGoodK a)
  have HGb := hide (refGoodK b)
  have ea : (kVal a.s a.n).good = goodK a := rfl
  have eb : (kVal b.s b.n).good = goodK b := rfl
  rw [ea, eb, hga, hgb] at HC4
  rw [hga] at HGa
  rw [hgb] at HGb
  simp only [Bool.and_false, Bool.false_and, Bool.and_self, Bool.false_eq_true, if_false] at HC4
  clear ea eb hga hgb
  have HT := hide hT
  clear hT
  have HTP := hide htab
  have HV := hide hr
  have HC0 := hide hc0
  clear htab hr hc0
  have LL := hide (Kq.of2 w a b)
  have hlz : (3000 : Int) < l.length := by omega
  have hq0 : a.agg = .agg #[.string a.s, .int .i64 a.n] := rfl
  have hq1 : b.agg = .agg #[.string b.s, .int .i64 b.n] := rfl
  rw [hq0, hq1]
  clear hq0 hq1
  go_enter Tryd.func3, Tryd.ntmps3
  go_wp2_with (first | go_skip | ((with_reducible apply load23); (case ho => rfl); (case hw => rfl); (case hx => rfl); (case hc => first | exact (unhide LL).get 0 rfl | exact (unhide LL).get 1 rfl); simp only [Act.put, List.setIfInBounds_toArray, List.set_cons_succ, List.set_cons_zero]) | ((with_reducible apply load9); (case ho => rfl); (case hw => rfl); (case hx => rfl); (case hc => first | exact (unhide LL).get 0 rfl | exact (unhide LL).get 1 rfl); simp only [Act.put, List.setIfInBounds_toArray, List.set_cons_succ, List.set_cons_zero]) | ((with_reducible apply load3); (case ho => rfl); (case hw => rfl); (case hx => rfl); (case hc => first | exact (unhide LL).get 0 rfl | exact (unhide LL).get 1 rfl); simp only [Act.put, List.setIfInBounds_toArray, List.set_cons_succ, List.set_cons_zero]))
  refine (unhide HC4 _ (tabs_below (unhide HT) (unhide LL).below)).mono ?_
  rintro _ w1 ⟨rfl, hb⟩
  replace LL := hide ((unhide LL).on hb)
  clear hb
  go_wp2_with (first | go_skip | ((with_reducible apply load23); (case ho => rfl); (case hw => rfl); (case hx => rfl); (case hc => first | exact (unhide LL).get 0 rfl | exact (unhide LL).get 1 rfl); simp only [Act.put, List.setIfInBounds_toArray, List.set_cons_succ, List.set_cons_zero]) | ((with_reducible apply load9); (case ho => rfl); (case hw => rfl); (case hx => rfl); (case hc => first | exact (unhide LL).get 0 rfl | exact (unhide LL).get 1 rfl); simp only [Act.put, List.setIfInBounds_toArray, List.set_cons_succ, List.set_cons_zero]) | ((with_reducible apply load3); (case ho => rfl); (case hw => rfl); (case hx => rfl); (case hc => first | exact (unhide LL).get 0 rfl | exact (unhide LL).get 1 rfl); simp only [Act.put, List.setIfInBounds_toArray, List.set_cons_succ, List.set_cons_zero]))
  refine (unhide HGa _).mono ?_
  rintro _ w2 ⟨rfl, hb⟩
  replace LL := hide ((unhide LL).on hb)
  clear hb
  go_wp2_with (first | go_skip | ((with_reducible apply load23); (case ho => rfl); (case hw => rfl); (case hx => rfl); (case hc => first | exact (unhide LL).get 0 rfl | exact (unhide LL).get 1 rfl); simp only [Act.put, List.setIfInBounds_toArray, List.set_cons_succ, List.set_cons_zero]) | ((with_reducible apply load9); (case ho => rfl); (case hw => rfl); (case hx => rfl); (case hc => first | exact (unhide LL).get 0 rfl | exact (unhide LL).get 1 rfl); simp only [Act.put, List.setIfInBounds_toArray, List.set_cons_succ, List.set_cons_zero]) | ((with_reducible apply load3); (case ho => rfl); (case hw => rfl); (case hx => rfl); (case hc => first | exact (unhide LL).get 0 rfl | exact (unhide LL).get 1 rfl); simp only [Act.put, List.setIfInBounds_toArray, List.set_cons_succ, List.set_cons_zero]))
  refine (num7 5 _).mono ?_
  rintro _ _ ⟨rfl, rfl⟩
  go_wp2
  go_ret
  exact ⟨rfl, (unhide LL).below⟩
set_option maxHeartbeats 20000000 in
set_option maxRecDepth 100000 in
theorem law_ff_good (A : Option Addr) (cap : Nat) (a b : KK) (l : List KK) (w : World) (hT : Lib.Utf8Tabs 2 3 w) (htab : TabP w) (hr : ReadsK w (.slice A l.length cap) l) (hc0 : ∀ c, Value.slice A l.length cap = .slice none 0 c → c = 0) (hga : goodK a = false) (hgb : goodK b = false) (hlen : l.length ≤ 3000) (hall : l.all goodK = true) : Calls Tryd.prog 3 #[a.agg, b.agg, .slice A l.length cap] w fun e w' => e = .returned (.bool true) ∧ Below w.heap.size w w' := by
  have HC4 := hide (fun w hT => compare4 a.s b.s a.n b.n w hT)
  rw [agg_key, agg_key] at HC4
  have HGa := hide (refGoodK a)
  have HGb := hide (refGoodK b)
  have ea : (kVal a.s a.n).good = goodK a := rfl
  have eb : (kVal b.s b.n).good = goodK b := rfl
  rw [ea, eb, hga, hgb] at HC4
  rw [hga] at HGa
  rw [hgb] at HGb
  simp only [Bool.and_false, Bool.false_and, Bool.and_self, Bool.false_eq_true, if_false] at HC4
  clear ea eb hga hgb
  have HT := hide hT
  clear hT
  have HTP := hide htab
  have HV := hide hr
  have HC0 := hide hc0
  clear htab hr hc0
  have LL := hide (Kq.of2 w a b)
  have hlz : ¬ (3000 : Int) < l.length := by omega
  have hq0 : a.agg = .agg #[.string a.s, .int .i64 a.n] := rfl
  have hq1 : b.agg = .agg #[.string b.s, .int .i64 b.n] := rfl
  rw [hq0, hq1]
  clear hq0 hq1
  go_enter Tryd.func3, Tryd.ntmps3
  go_wp2_with (first | go_skip | ((with_reducible apply load23); (case ho => rfl); (case hw => rfl); (case hx => rfl); (case hc => first | exact (unhide LL).get 0 rfl | exact (unhide LL).get 1 rfl); simp only [Act.put, List.setIfInBounds_toArray, List.set_cons_succ, List.set_cons_zero]) | ((with_reducible apply load9); (case ho => rfl); (case hw => rfl); (case hx => rfl); (case hc => first | exact (unhide LL).get 0 rfl | exact (unhide LL).get 1 rfl); simp only [Act.put, List.setIfInBounds_toArray, List.set_cons_succ, List.set_cons_zero]) | ((with_reducible apply load3); (case ho => rfl); (case hw => rfl); (case hx => rfl); (case hc => first | exact (unhide LL).get 0 rfl | exact (unhide LL).get 1 rfl); simp only [Act.put, List.setIfInBounds_toArray, List.set_cons_succ, List.set_cons_zero]))
  refine (unhide HC4 _ (tabs_below (unhide HT) (unhide LL).below)).mono ?_
  rintro _ w1 ⟨rfl, hb⟩
  replace LL := hide ((unhide LL).on hb)
  clear hb
  go_wp2_with (first | go_skip | ((with_reducible apply load23); (case ho => rfl); (case hw => rfl); (case hx => rfl); (case hc => first | exact (unhide LL).get 0 rfl | exact (unhide LL).get 1 rfl); simp only [Act.put, List.setIfInBounds_toArray, List.set_cons_succ, List.set_cons_zero]) | ((with_reducible apply load9); (case ho => rfl); (case hw => rfl); (case hx => rfl); (case hc => first | exact (unhide LL).get 0 rfl | exact (unhide LL).get 1 rfl); simp only [Act.put, List.setIfInBounds_toArray, List.set_cons_succ, List.set_cons_zero]) | ((with_reducible apply load3); (case ho => rfl); (case hw => rfl); (case hx => rfl); (case hc => first | exact (unhide LL).get 0 rfl | exact (unhide LL).get 1 rfl); simp only [Act.put, List.setIfInBounds_toArray, List.set_cons_succ, List.set_cons_zero]))
  refine (unhide HGa _).mono ?_
  rintro _ w2 ⟨rfl, hb⟩
  replace LL := hide ((unhide LL).on hb)
  clear hb
  go_wp2_with (first | go_skip | ((with_reducible apply load23); (case ho => rfl); (case hw => rfl); (case hx => rfl); (case hc => first | exact (unhide LL).get 0 rfl | exact (unhide LL).get 1 rfl); simp only [Act.put, List.setIfInBounds_toArray, List.set_cons_succ, List.set_cons_zero]) | ((with_reducible apply load9); (case ho => rfl); (case hw => rfl); (case hx => rfl); (case hc => first | exact (unhide LL).get 0 rfl | exact (unhide LL).get 1 rfl); simp only [Act.put, List.setIfInBounds_toArray, List.set_cons_succ, List.set_cons_zero]) | ((with_reducible apply load3); (case ho => rfl); (case hw => rfl); (case hx => rfl); (case hc => first | exact (unhide LL).get 0 rfl | exact (unhide LL).get 1 rfl); simp only [Act.put, List.setIfInBounds_toArray, List.set_cons_succ, List.set_cons_zero]))
  refine (num7 5 _).mono ?_
  rintro _ _ ⟨rfl, rfl⟩
  have HB := hide (unhide LL).below
  have HB0 := HB
  clear LL
  have HL1 : Hid (([] : List KK).length + l.length ≤ 10000) := hide (by simp; omega)
  have HL2 : Hid ((([] : List KK) ++ l).length + [k7].length ≤ 10000) := hide (by simp; omega)
  go_wp2_with (first | go_skip | ((with_reducible apply kempty); (case ho => rfl); (case hw => rfl); (intro X9 k1 k2 k3; simp only [Act.put, List.setIfInBounds_toArray, List.set_cons_succ, List.set_cons_zero]; have HE := hide k1; have HEs := hide k3.size; replace HB := hide ((unhide HB).trans (k3.mono (unhide HB).size)); clear k1 k2 k3)) | ((with_reducible apply append_kf (l := []) (m := l)); (case hgd => rfl); (case ho => rfl); (case hs => rfl); (case hx => rfl); (case hown => exact unhide HE); (case hu => exact (unhide HV).on (unhide HB)); (case hcap => exact unhide HC0); (case hn => exact unhide HL1); (case hbase => exact unhide HEs); (intro v1 X1 k1 k2 k3; simp only [Act.put, List.setIfInBounds_toArray, List.set_cons_succ, List.set_cons_zero]; have HO1 := hide k1; replace HB := hide ((unhide HB).grown k2 (unhide HB).size (fun k hk => Nat.le_trans (unhide HB0).size ((unhide HE).own k hk).1)); have HG1 := hide k2; clear k1 k2 k3)) | ((with_reducible apply kbuild (d := k7)); (case ho => rfl); (case hw => rfl); (case hx => rfl); (intro X5 k1 k2 k3; simp only [Act.put, List.setIfInBounds_toArray, List.set_cons_succ, List.set_cons_zero]; have HC := hide k1; have HX5 := hide k3; replace HB := hide ((unhide HB).trans (k3.mono (unhide HB).size)); clear k1 k2 k3)) | ((with_reducible apply append_kf (l := [] ++ l) (m := [k7])); (case hgd => rfl); (case ho => rfl); (case hs => rfl); (case hx => rfl); (case hown => exact (unhide HO1).on (unhide HX5)); (case hu => exact unhide HC); (case hcap => exact (fun c hc => by cases hc)); (case hn => exact unhide HL2); (case hbase => exact Nat.le_trans (unhide HEs) (Nat.le_trans (unhide HG1).size (unhide HX5).size)); (intro v2 X2 k1 k2 k3; obtain ⟨g, c, rfl, hlc, hbg, hgl, hrw⟩ := own_some7 k1; simp only [Act.put, List.setIfInBounds_toArray, List.set_cons_succ, List.set_cons_zero]; replace HB := hide ((unhide HB).grown k2 (unhide HB).size (fun k hk => Nat.le_trans (unhide HB0).size ((unhide HO1).own k hk).1)); have HRW := hide hrw; clear k1 k2 k3 hrw)) | ((with_reducible apply kslh (b := g) (n := l.length + 1) (cap := c) (p := l.length)); (case ho => rfl); (case hw => rfl); (case hx => rfl); (case hix => rfl); (case hp => exact Nat.le_of_succ_le hlc); simp only [Act.put, List.setIfInBounds_toArray, List.set_cons_succ, List.set_cons_zero]))
  have HGW : Hid (RowsK X2 g 0 l ∧ g < X2.heap.size) := hide ⟨rows_prefix (unhide HRW), hgl⟩
  have H7 := hide (rows_last (unhide HRW))
  clear HRW HC HO1 HE HEs HG1 HX5
  have hbgw : w.heap.size ≤ g := Nat.le_trans (unhide HB0).size hbg
  refine (order8 (.slice (some ⟨g, 0, none⟩) l.length c) l _ (tabs_below (unhide HT) (unhide HB)) ((unhide HTP).on (unhide HB)) (.inr ⟨g, 0, c, rfl, (unhide HGW).2, (unhide HGW).1⟩) hlen).mono ?_
  rintro _ w4 ⟨vx, nx, rfl, hb4, hdx⟩
  have hgl4 := (unhide HGW).2
  have hd2x : nx = 0 ∧ OwnK w4 X2.heap.size vx (OL l) := by
    rcases hdx with h | h
    · exact h.2
    · rw [h.1] at hall
      cases hall
  obtain ⟨rfl, hoxx⟩ := hd2x
  clear hdx
  have HX := hide hoxx
  have HXb := hide (unhide HX).own
  have hbx : g < X2.heap.size := hgl
  clear hoxx
  replace HGW : Hid (RowsK w4 g 0 l ∧ g < w4.heap.size) := hide ⟨(unhide HGW).1.keep (hb4.block g (unhide HGW).2), Nat.lt_of_lt_of_le (unhide HGW).2 hb4.size⟩
  replace H7 : Hid (w4.cell? ⟨g, l.length * 2 + 1, none⟩ = some (.int .i64 (-7))) := hide (by rw [World.cell?_of_block (hb4.block g hgl4)]; exact unhide H7)
  replace HB := hide ((unhide HB).trans (hb4.mono (unhide HB).size))
  clear hb4
  go_wp2_with (first | go_skip | ((with_reducible apply kslh (b := g) (n := l.length + 1) (cap := c) (p := l.length)); (case ho => rfl); (case hw => rfl); (case hx => rfl); (case hix => rfl); (case hp => exact Nat.le_of_succ_le hlc); simp only [Act.put, List.setIfInBounds_toArray, List.set_cons_succ, List.set_cons_zero]))
  refine (order8 (.slice (some ⟨g, 0, none⟩) l.length c) l _ (tabs_below (unhide HT) (unhide HB)) ((unhide HTP).on (unhide HB)) (.inr ⟨g, 0, c, rfl, (unhide HGW).2, (unhide HGW).1⟩) hlen).mono ?_
  rintro _ w5 ⟨vy, ny, rfl, hb5, hdy⟩
  have hgl5 := (unhide HGW).2
  have hd2y : ny = 0 ∧ OwnK w5 w4.heap.size vy (OL l) := by
    rcases hdy with h | h
    · exact h.2
    · rw [h.1] at hall
      cases hall
  obtain ⟨rfl, hoxy⟩ := hd2y
  clear hdy
  have HY := hide hoxy
  have HYb := hide (unhide HY).own
  clear hoxy
  replace HGW : Hid (RowsK w5 g 0 l ∧ g < w5.heap.size) := hide ⟨(unhide HGW).1.keep (hb5.block g (unhide HGW).2), Nat.lt_of_lt_of_le (unhide HGW).2 hb5.size⟩
  replace H7 : Hid (w5.cell? ⟨g, l.length * 2 + 1, none⟩ = some (.int .i64 (-7))) := hide (by rw [World.cell?_of_block (hb5.block g hgl5)]; exact unhide H7)
  replace HX := hide ((unhide HX).on hb5)
  replace HB := hide ((unhide HB).trans (hb5.mono (unhide HB).size))
  clear hb5
  go_wp2_with fail
  refine (goods9 (.slice A l.length cap) l _ ((unhide HV).on (unhide HB)) hlen).mono ?_
  rintro _ w6 ⟨rfl, hb6⟩
  have hgl6 := (unhide HGW).2
  replace HGW : Hid (RowsK w6 g 0 l ∧ g < w6.heap.size) := hide ⟨(unhide HGW).1.keep (hb6.block g (unhide HGW).2), Nat.lt_of_lt_of_le (unhide HGW).2 hb6.size⟩
  replace H7 : Hid (w6.cell? ⟨g, l.length * 2 + 1, none⟩ = some (.int .i64 (-7))) := hide (by rw [World.cell?_of_block (hb6.block g hgl6)]; exact unhide H7)
  replace HX := hide ((unhide HX).on hb6)
  replace HY := hide ((unhide HY).on hb6)
  replace HB := hide ((unhide HB).trans (hb6.mono (unhide HB).size))
  clear hb6
  rw [hall]
  go_wp2_with fail
  refine (refOrder11 (.slice A l.length cap) l (fun k hk => List.all_eq_true.1 hall k hk) _ ((unhide HV).on (unhide HB)) hlen).mono ?_
  rintro _ w7 ⟨vz, rfl, hoz, hb7⟩
  have hgl7 := (unhide HGW).2
  have HZ : Hid (OwnK w7 w6.heap.size vz (OL l)) := hide hoz
  have HZb := hide (unhide HZ).own
  have HXl := hide (unhide HX).own
  clear hoz
  replace HGW : Hid (RowsK w7 g 0 l ∧ g < w7.heap.size) := hide ⟨(unhide HGW).1.keep (hb7.block g (unhide HGW).2), Nat.lt_of_lt_of_le (unhide HGW).2 hb7.size⟩
  replace H7 : Hid (w7.cell? ⟨g, l.length * 2 + 1, none⟩ = some (.int .i64 (-7))) := hide (by rw [World.cell?_of_block (hb7.block g hgl7)]; exact unhide H7)
  replace HX := hide ((unhide HX).on hb7)
  replace HY := hide ((unhide HY).on hb7)
  replace HB := hide ((unhide HB).trans (hb7.mono (unhide HB).size))
  clear hb7
  have hol := OL_len l hlen
  obtain ⟨A4, c4, hv4⟩ := own_slice (unhide HX)
  subst hv4
  go_wp2_with fail
  refine (num7 0 _).mono ?_
  rintro _ _ ⟨rfl, rfl⟩
  go_wp2_with fail
  refine (same10 (.slice A4 (OL l).length c4) (vz) (OL l) _ ((unhide HX).reads) ((unhide HZ).reads) (by omega)).mono ?_
  rintro _ w8 ⟨rfl, hb8⟩
  have hgl8 := (unhide HGW).2
  replace HGW : Hid (RowsK w8 g 0 l ∧ g < w8.heap.size) := hide ⟨(unhide HGW).1.keep (hb8.block g (unhide HGW).2), Nat.lt_of_lt_of_le (unhide HGW).2 hb8.size⟩
  replace H7 : Hid (w8.cell? ⟨g, l.length * 2 + 1, none⟩ = some (.int .i64 (-7))) := hide (by rw [World.cell?_of_block (hb8.block g hgl8)]; exact unhide H7)
  replace HX := hide ((unhide HX).on hb8)
  replace HY := hide ((unhide HY).on hb8)
  replace HZ := hide ((unhide HZ).on hb8)
  replace HB := hide ((unhide HB).trans (hb8.mono (unhide HB).size))
  clear hb8
  go_wp2_with fail
  refine (same10 (vy) (vz) (OL l) _ ((unhide HY).reads) ((unhide HZ).reads) (by omega)).mono ?_
  rintro _ w9 ⟨rfl, hb9⟩
  have hgl9 := (unhide HGW).2
  replace HGW : Hid (RowsK w9 g 0 l ∧ g < w9.heap.size) := hide ⟨(unhide HGW).1.keep (hb9.block g (unhide HGW).2), Nat.lt_of_lt_of_le (unhide HGW).2 hb9.size⟩
  replace H7 : Hid (w9.cell? ⟨g, l.length * 2 + 1, none⟩ = some (.int .i64 (-7))) := hide (by rw [World.cell?_of_block (hb9.block g hgl9)]; exact unhide H7)
  replace HX := hide ((unhide HX).on hb9)
  replace HY := hide ((unhide HY).on hb9)
  replace HZ := hide ((unhide HZ).on hb9)
  replace HB := hide ((unhide HB).trans (hb9.mono (unhide HB).size))
  clear hb9
  go_wp2_with (first | go_skip | ((with_reducible apply kslh (b := g) (n := l.length + 1) (cap := c) (p := l.length)); (case ho => rfl); (case hw => rfl); (case hx => rfl); (case hix => rfl); (case hp => exact Nat.le_of_succ_le hlc); simp only [Act.put, List.setIfInBounds_toArray, List.set_cons_succ, List.set_cons_zero]))
  refine (same10 (.slice (some ⟨g, 0, none⟩) l.length c) (.slice A l.length cap) (l) _ ((.inr ⟨g, 0, c, rfl, (unhide HGW).2, (unhide HGW).1⟩)) ((unhide HV).on (unhide HB)) (by omega)).mono ?_
  rintro _ w10 ⟨rfl, hb10⟩
  have hgl10 := (unhide HGW).2
  replace HGW : Hid (RowsK w10 g 0 l ∧ g < w10.heap.size) := hide ⟨(unhide HGW).1.keep (hb10.block g (unhide HGW).2), Nat.lt_of_lt_of_le (unhide HGW).2 hb10.size⟩
  replace H7 : Hid (w10.cell? ⟨g, l.length * 2 + 1, none⟩ = some (.int .i64 (-7))) := hide (by rw [World.cell?_of_block (hb10.block g hgl10)]; exact unhide H7)
  replace HX := hide ((unhide HX).on hb10)
  replace HY := hide ((unhide HY).on hb10)
  replace HZ := hide ((unhide HZ).on hb10)
  replace HB := hide ((unhide HB).trans (hb10.mono (unhide HB).size))
  clear hb10
  have hc7 := unhide H7
  have hc70 : w10.cell? ⟨g, 0 + l.length * 2 + 1, none⟩ = some (.int .i64 (-7)) := by rw [Nat.zero_add]; exact hc7
  go_wp2_with (first | go_skip | ((with_reducible apply kindex (j := l.length) (off := 0)); (case ho => rfl); (case hw => rfl); (case hx => rfl); (case hix => rfl); (case hj => exact Nat.lt_succ_self _); simp only [Act.put, List.setIfInBounds_toArray, List.set_cons_succ, List.set_cons_zero]))
  clear hc7 hc70
  obtain ⟨W6, hW6⟩ : ∃ W, W = w10 := ⟨_, rfl⟩
  by_cases h0 : (OL l).length = 0
  · rw [h0]
    go_loopg [16] 0 (fun gm s16 wr => s16 = .int .i64 0 ∧ Hid (Below W6.heap.size W6 wr))
    case atStart => exact ⟨rfl, hide (by rw [hW6]; exact Below.refl _ _)⟩
    case round =>
      obtain ⟨rfl, HR⟩ := hrel
      go_wp2_with fail
      refine (same10 vy vz (OL l) _ ((unhide HY).reads.on (hW6 ▸ unhide HR)) ((unhide HZ).reads.on (hW6 ▸ unhide HR)) (by omega)).mono ?_
      rintro _ w11 ⟨rfl, hb11⟩
      replace HR : Hid (Below W6.heap.size W6 w11) := hide ((unhide HR).trans (hb11.mono (unhide HR).size))
      go_wp2_with (first | go_skip | ((with_reducible apply kslh (b := g) (n := l.length + 1) (cap := c) (p := l.length)); (case ho => rfl); (case hw => rfl); (case hx => rfl); (case hix => rfl); (case hp => exact Nat.le_of_succ_le hlc); simp only [Act.put, List.setIfInBounds_toArray, List.set_cons_succ, List.set_cons_zero]))
      refine (same10 (.slice (some ⟨g, 0, none⟩) l.length c) (.slice A l.length cap) l _ (ReadsK.on (.inr ⟨g, 0, c, rfl, (unhide HGW).2, (unhide HGW).1⟩) (hW6 ▸ unhide HR)) ((unhide HV).on ((unhide HB).trans ((hW6 ▸ unhide HR).mono (unhide HB).size))) (by omega)).mono ?_
      rintro _ w12 ⟨rfl, hb12⟩
      go_wp2
      go_ret
      exact ⟨rfl, ((unhide HB).trans ((hW6 ▸ unhide HR).mono (unhide HB).size)).trans (hb12.mono (Nat.le_trans (unhide HB).size (by have := (unhide HR).size; rw [hW6] at this; exact this)))⟩
  · obtain ⟨gx, hA4, hxg⟩ : ∃ gx, A4 = some ⟨gx, 0, none⟩ ∧ gx < w10.heap.size := by
      rcases (unhide HX).form with ⟨_, h⟩ | ⟨gx, cx, e, _, _, h4, _⟩
      · rw [h] at h0
        exact absurd rfl h0
      · cases e
        exact ⟨gx, rfl, h4⟩
    subst hA4
    have HTx : Hid (ThereX W6 gx (OL l).length) := hide (by rw [hW6]; exact (unhide HX).thereX)
    have hgx : g ≠ gx := fun e => by have := ((unhide HXb) gx rfl).1; omega
    have hyx : ∀ k, vy.ownBlock = some k → k ≠ gx := fun k hk e => by have h1 := ((unhide HYb) k hk).1; have h2 := ((unhide HXb) gx rfl).2; omega
    have hzx : ∀ k, vz.ownBlock = some k → k ≠ gx := fun k hk e => by have h1 := ((unhide HZb) k hk).1; have h2 := ((unhide HXl) gx rfl).2; omega
    have HF : Hid (∀ X, W6.grownBy X (some gx) → ReadsK X vy (OL l) ∧ ReadsK X vz (OL l) ∧ ReadsK X (.slice (some ⟨g, 0, none⟩) l.length c) l ∧ ReadsK X (.slice A l.length cap) l ∧ Below w.heap.size w X) := hide (fun X hX => by
      subst hW6
      refine ⟨(unhide HY).reads.grown hX (fun k hk _ e => hyx k hk (by simpa using e)), (unhide HZ).reads.grown hX (fun k hk _ e => hzx k hk (by simpa using e)), ReadsK.grown (.inr ⟨g, 0, c, rfl, (unhide HGW).2, (unhide HGW).1⟩) hX (fun k hk _ e => ?_), ?_, ?_⟩
      · have h1 : g = k := by simpa [Value.ownBlock] using hk
        have h2 : k = gx := by simpa using e
        exact hgx (h1.trans h2)
      · have hB2 := (unhide HB).grown hX (unhide HB).size (fun k hk => by have := ((unhide HXb) gx rfl).1; have e : gx = k := (by simpa using hk); omega)
        exact (unhide HV).on hB2
      · exact (unhide HB).grown hX (unhide HB).size (fun k hk => by have := ((unhide HXb) gx rfl).1; have e : gx = k := (by simpa using hk); omega))
    go_loopg [16] (OL l).length (fun gm s16 wr => ∃ i : Nat, s16 = .int .i64 i ∧ i ≤ (OL l).length ∧ (OL l).length - i ≤ gm ∧ Hid (W6.grownBy wr (some gx) ∧ ThereX wr gx (OL l).length))
    case atStart => exact ⟨0, rfl, by omega, by omega, hide ⟨by rw [hW6]; exact ⟨rfl, rfl, rfl, Nat.le_refl _, fun _ _ _ => rfl⟩, by have := unhide HTx; rw [hW6] at this; exact this⟩⟩
    case round =>
      obtain ⟨i, rfl, hi, hgi, HX2⟩ := hrel
      by_cases hilt : i < (OL l).length
      · have hiz : (i : Int) < ((OL l).length : Int) := by omega
        go_wp2_with (first | go_skip | ((with_reducible apply kindex (j := i) (off := 0)); (case ho => rfl); (case hw => rfl); (case hx => rfl); (case hix => rfl); (case hj => exact hilt); simp only [Act.put, List.setIfInBounds_toArray, List.set_cons_succ, List.set_cons_zero]) | ((with_reducible apply kstoreAt (u := k9) (j := i) (n := (OL l).length)); (case ho => rfl); (case hw => rfl); (case hx => rfl); (case hy => rfl); (case hj => exact hilt); (case ht => exact (unhide HX2).2); (intro X9 hX9; simp only [Act.put, List.setIfInBounds_toArray, List.set_cons_succ, List.set_cons_zero]; have HX3 : Hid (W6.grownBy X9 (some gx) ∧ ThereX X9 gx (OL l).length) := hide ⟨by rw [hX9]; exact gb_setCells (unhide HX2).1, by rw [hX9]; exact ThereX.set _ _ _ (unhide HX2).2⟩; clear hX9)))
        go_roundg ((OL l).length - (i + 1))
        case measure => omega
        case rel => exact ⟨i + 1, by go_num, by omega, Nat.le_refl _, HX3⟩
      · have hiz : ¬ (i : Int) < ((OL l).length : Int) := by omega
        go_wp2_with fail
        refine (same10 vy vz (OL l) _ ((unhide HF _ (unhide HX2).1).1) ((unhide HF _ (unhide HX2).1).2.1) (by omega)).mono ?_
        rintro _ w11 ⟨rfl, hb11⟩
        have HBX := hide (unhide HF _ (unhide HX2).1)
        go_wp2_with (first | go_skip | ((with_reducible apply kslh (b := g) (n := l.length + 1) (cap := c) (p := l.length)); (case ho => rfl); (case hw => rfl); (case hx => rfl); (case hix => rfl); (case hp => exact Nat.le_of_succ_le hlc); simp only [Act.put, List.setIfInBounds_toArray, List.set_cons_succ, List.set_cons_zero]))
        refine (same10 (.slice (some ⟨g, 0, none⟩) l.length c) (.slice A l.length cap) l _ ((unhide HBX).2.2.1.on hb11) ((unhide HBX).2.2.2.1.on hb11) (by omega)).mono ?_
        rintro _ w12 ⟨rfl, hb12⟩
        go_wp2
        go_ret
        exact ⟨rfl, ((unhide HBX).2.2.2.2.trans (hb11.mono (unhide HBX).2.2.2.2.size)).trans (hb12.mono (Nat.le_trans (unhide HBX).2.2.2.2.size hb11.size))⟩
set_option maxHeartbeats 20000000 in
set_option maxRecDepth 100000 in
theorem law_ff_bad (A : Option Addr) (cap : Nat) (a b : KK) (l : List KK) (w : World) (hT : Lib.Utf8Tabs 2 3 w) (htab : TabP w) (hr : ReadsK w (.slice A l.length cap) l) (hc0 : ∀ c, Value.slice A l.length cap = .slice none 0 c → c = 0) (hga : goodK a = false) (hgb : goodK b = false) (hlen : l.length ≤ 3000) (hall : l.all goodK = false) : Calls Tryd.prog 3 #[a.agg, b.agg, .slice A l.length cap] w fun e w' => e = .returned (.bool true) ∧ Below w.heap.size w w' := by
  have HC4 := hide (fun w hT => compare4 a.s b.s a.n b.n w hT)
  rw [agg_key, agg_key] at HC4
  have HGa := hide (refGoodK a)
  have HGb := hide (refGoodK b)
  have ea : (kVal a.s a.n).good = goodK a := rfl
  have eb : (kVal b.s b.n).good = goodK b := rfl
  rw [ea, eb, hga, hgb] at HC4
  rw [hga] at HGa
  rw [hgb] at HGb
  simp only [Bool.and_false, Bool.false_and, Bool.and_self, Bool.false_eq_true, if_false] at HC4
  clear ea eb hga hgb
  have HT := hide hT
  clear hT
  have HTP := hide htab
  have HV := hide hr
  have HC0 := hide hc0
  clear htab hr hc0
  have LL := hide (Kq.of2 w a b)
  have hlz : ¬ (3000 : Int) < l.length := by omega
  have hq0 : a.agg = .agg #[.string a.s, .int .i64 a.n] := rfl
  have hq1 : b.agg = .agg #[.string b.s, .int .i64 b.n] := rfl
  rw [hq0, hq1]
  clear hq0 hq1
  go_enter Tryd.func3, Tryd.ntmps3
  go_wp2_with (first | go_skip | ((with_reducible apply load23); (case ho => rfl); (case hw => rfl); (case hx => rfl); (case hc => first | exact (unhide LL).get 0 rfl | exact (unhide LL).get 1 rfl); simp only [Act.put, List.setIfInBounds_toArray, List.set_cons_succ, List.set_cons_zero]) | ((with_reducible apply load9); (case ho => rfl); (case hw => rfl); (case hx => rfl); (case hc => first | exact (unhide LL).get 0 rfl | exact (unhide LL).get 1 rfl); simp only [Act.put, List.setIfInBounds_toArray, List.set_cons_succ, List.set_cons_zero]) | ((with_reducible apply load3); (case ho => rfl); (case hw => rfl); (case hx => rfl); (case hc => first | exact (unhide LL).get 0 rfl | exact (unhide LL).get 1 rfl); simp only [Act.put, List.setIfInBounds_toArray, List.set_cons_succ, List.set_cons_zero]))
  refine (unhide HC4 _ (tabs_below (unhide HT) (unhide LL).below)).mono ?_
  rintro _ w1 ⟨rfl, hb⟩
  replace LL := hide ((unhide LL).on hb)
  clear hb
  go_wp2_with (first | go_skip | ((with_reducible apply load23); (case ho => rfl); (case hw => rfl); (case hx => rfl); (case hc => first | exact (unhide LL).get 0 rfl | exact (unhide LL).get 1 rfl); simp only [Act.put, List.setIfInBounds_toArray, List.set_cons_succ, List.set_cons_zero]) | ((with_reducible apply load9); (case ho => rfl); (case hw => rfl); (case hx => rfl); (case hc => first | exact (unhide LL).get 0 rfl | exact (unhide LL).get 1 rfl); simp only [Act.put, List.setIfInBounds_toArray, List.set_cons_succ, List.set_cons_zero]) | ((with_reducible apply load3); (case ho => rfl); (case hw => rfl); (case hx => rfl); (case hc => first | exact (unhide LL).get 0 rfl | exact (unhide LL).get 1 rfl); simp only [Act.put, List.setIfInBounds_toArray, List.set_cons_succ, List.set_cons_zero]))
  refine (unhide HGa _).mono ?_
  rintro _ w2 ⟨rfl, hb⟩
  replace LL := hide ((unhide LL).on hb)
  clear hb
  go_wp2_with (first | go_skip | ((with_reducible apply load23); (case ho => rfl); (case hw => rfl); (case hx => rfl); (case hc => first | exact (unhide LL).get 0 rfl | exact (unhide LL).get 1 rfl); simp only [Act.put, List.setIfInBounds_toArray, List.set_cons_succ, List.set_cons_zero]) | ((with_reducible apply load9); (case ho => rfl); (case hw => rfl); (case hx => rfl); (case hc => first | exact (unhide LL).get 0 rfl | exact (unhide LL).get 1 rfl); simp only [Act.put, List.setIfInBounds_toArray, List.set_cons_succ, List.set_cons_zero]) | ((with_reducible apply load3); (case ho => rfl); (case hw => rfl); (case hx => rfl); (case hc => first | exact (unhide LL).get 0 rfl | exact (unhide LL).get 1 rfl); simp only [Act.put, List.setIfInBounds_toArray, List.set_cons_succ, List.set_cons_zero]))
  refine (num7 5 _).mono ?_
  rintro _ _ ⟨rfl, rfl⟩
  have HB := hide (unhide LL).below
  have HB0 := HB
  clear LL
  have HL1 : Hid (([] : List KK).length + l.length ≤ 10000) := hide (by simp; omega)
  have HL2 : Hid ((([] : List KK) ++ l).length + [k7].length ≤ 10000) := hide (by simp; omega)
  go_wp2_with (first | go_skip | ((with_reducible apply kempty); (case ho => rfl); (case hw => rfl); (intro X9 k1 k2 k3; simp only [Act.put, List.setIfInBounds_toArray, List.set_cons_succ, List.set_cons_zero]; have HE := hide k1; have HEs := hide k3.size; replace HB := hide ((unhide HB).trans (k3.mono (unhide HB).size)); clear k1 k2 k3)) | ((with_reducible apply append_kf (l := []) (m := l)); (case hgd => rfl); (case ho => rfl); (case hs => rfl); (case hx => rfl); (case hown => exact unhide HE); (case hu => exact (unhide HV).on (unhide HB)); (case hcap => exact unhide HC0); (case hn => exact unhide HL1); (case hbase => exact unhide HEs); (intro v1 X1 k1 k2 k3; simp only [Act.put, List.setIfInBounds_toArray, List.set_cons_succ, List.set_cons_zero]; have HO1 := hide k1; replace HB := hide ((unhide HB).grown k2 (unhide HB).size (fun k hk => Nat.le_trans (unhide HB0).size ((unhide HE).own k hk).1)); have HG1 := hide k2; clear k1 k2 k3)) | ((with_reducible apply kbuild (d := k7)); (case ho => rfl); (case hw => rfl); (case hx => rfl); (intro X5 k1 k2 k3; simp only [Act.put, List.setIfInBounds_toArray, List.set_cons_succ, List.set_cons_zero]; have HC := hide k1; have HX5 := hide k3; replace HB := hide ((unhide HB).trans (k3.mono (unhide HB).size)); clear k1 k2 k3)) | ((with_reducible apply append_kf (l := [] ++ l) (m := [k7])); (case hgd => rfl); (case ho => rfl); (case hs => rfl); (case hx => rfl); (case hown => exact (unhide HO1).on (unhide HX5)); (case hu => exact unhide HC); (case hcap => exact (fun c hc => by cases hc)); (case hn => exact unhide HL2); (case hbase => exact Nat.le_trans (unhide HEs) (Nat.le_trans (unhide HG1).size (unhide HX5).size)); (intro v2 X2 k1 k2 k3; obtain ⟨g, c, rfl, hlc, hbg, hgl, hrw⟩ := own_some7 k1; simp only [Act.put, List.setIfInBounds_toArray, List.set_cons_succ, List.set_cons_zero]; replace HB := hide ((unhide HB).grown k2 (unhide HB).size (fun k hk => Nat.le_trans (unhide HB0).size ((unhide HO1).own k hk).1)); have HRW := hide hrw; clear k1 k2 k3 hrw)) | ((with_reducible apply kslh (b := g) (n := l.length + 1) (cap := c) (p := l.length)); (case ho => rfl); (case hw => rfl); (case hx => rfl); (case hix => rfl); (case hp => exact Nat.le_of_succ_le hlc); simp only [Act.put, List.setIfInBounds_toArray, List.set_cons_succ, List.set_cons_zero]))
  have HGW : Hid (RowsK X2 g 0 l ∧ g < X2.heap.size) := hide ⟨rows_prefix (unhide HRW), hgl⟩
  have H7 := hide (rows_last (unhide HRW))
  clear HRW HC HO1 HE HEs HG1 HX5
  have hbgw : w.heap.size ≤ g := Nat.le_trans (unhide HB0).size hbg
  refine (order8 (.slice (some ⟨g, 0, none⟩) l.length c) l _ (tabs_below (unhide HT) (unhide HB)) ((unhide HTP).on (unhide HB)) (.inr ⟨g, 0, c, rfl, (unhide HGW).2, (unhide HGW).1⟩) hlen).mono ?_
  rintro _ w4 ⟨vx, nx, rfl, hb4, hdx⟩
  have hgl4 := (unhide HGW).2
  have hd2x : nx = 5 ∧ vx = .slice none 0 0 := by
    rcases hdx with h | h
    · rw [h.1] at hall
      cases hall
    · exact h.2
  obtain ⟨rfl, rfl⟩ := hd2x
  clear hdx
  replace HGW : Hid (RowsK w4 g 0 l ∧ g < w4.heap.size) := hide ⟨(unhide HGW).1.keep (hb4.block g (unhide HGW).2), Nat.lt_of_lt_of_le (unhide HGW).2 hb4.size⟩
  replace H7 : Hid (w4.cell? ⟨g, l.length * 2 + 1, none⟩ = some (.int .i64 (-7))) := hide (by rw [World.cell?_of_block (hb4.block g hgl4)]; exact unhide H7)
  replace HB := hide ((unhide HB).trans (hb4.mono (unhide HB).size))
  clear hb4
  go_wp2_with (first | go_skip | ((with_reducible apply kslh (b := g) (n := l.length + 1) (cap := c) (p := l.length)); (case ho => rfl); (case hw => rfl); (case hx => rfl); (case hix => rfl); (case hp => exact Nat.le_of_succ_le hlc); simp only [Act.put, List.setIfInBounds_toArray, List.set_cons_succ, List.set_cons_zero]))
  refine (order8 (.slice (some ⟨g, 0, none⟩) l.length c) l _ (tabs_below (unhide HT) (unhide HB)) ((unhide HTP).on (unhide HB)) (.inr ⟨g, 0, c, rfl, (unhide HGW).2, (unhide HGW).1⟩) hlen).mono ?_
  rintro _ w5 ⟨vy, ny, rfl, hb5, hdy⟩
  have hgl5 := (unhide HGW).2
  have hd2y : ny = 5 ∧ vy = .slice none 0 0 := by
    rcases hdy with h | h
    · rw [h.1] at hall
      cases hall
    · exact h.2
  obtain ⟨rfl, rfl⟩ := hd2y
  clear hdy
  replace HGW : Hid (RowsK w5 g 0 l ∧ g < w5.heap.size) := hide ⟨(unhide HGW).1.keep (hb5.block g (unhide HGW).2), Nat.lt_of_lt_of_le (unhide HGW).2 hb5.size⟩
  replace HB := hide ((unhide HB).trans (hb5.mono (unhide HB).size))
  clear hb5
  go_wp2_with fail
  refine (goods9 (.slice A l.length cap) l _ ((unhide HV).on (unhide HB)) hlen).mono ?_
  rintro _ w6 ⟨rfl, hb6⟩
  have hgl6 := (unhide HGW).2
  replace HGW : Hid (RowsK w6 g 0 l ∧ g < w6.heap.size) := hide ⟨(unhide HGW).1.keep (hb6.block g (unhide HGW).2), Nat.lt_of_lt_of_le (unhide HGW).2 hb6.size⟩
  replace HB := hide ((unhide HB).trans (hb6.mono (unhide HB).size))
  clear hb6
  rw [hall]
  go_wp2_with fail
  refine (num7 5 _).mono ?_
  rintro _ _ ⟨rfl, rfl⟩
  go_wp2_with (first | go_skip | ((with_reducible apply kslh (b := g) (n := l.length + 1) (cap := c) (p := l.length)); (case ho => rfl); (case hw => rfl); (case hx => rfl); (case hix => rfl); (case hp => exact Nat.le_of_succ_le hlc); simp only [Act.put, List.setIfInBounds_toArray, List.set_cons_succ, List.set_cons_zero]))
  refine (same10 (.slice (some ⟨g, 0, none⟩) l.length c) (.slice A l.length cap) l _ (.inr ⟨g, 0, c, rfl, (unhide HGW).2, (unhide HGW).1⟩) ((unhide HV).on (unhide HB)) (by omega)).mono ?_
  rintro _ w7 ⟨rfl, hb7⟩
  replace HB := hide ((unhide HB).trans (hb7.mono (unhide HB).size))
  go_wp2
  go_ret
  exact ⟨rfl, unhide HB⟩
end Go.Proofs.YtmlofbgnoaobfaaDoor
