import Derived.Test.YtmlofbgnoaobfaaDoorLh
namespace Go.Proofs.YtmlofbgnoaobfaaDoor
open Go Go.Proofs Go.RowKit
set_option linter.unusedSimpArgs false
set_option linter.unusedVariables false
set_option maxHeartbeats 20000000 in
set_option maxRecDepth 100000 in
theorem order_rows (b off cap : Nat) (l : List KK) (w : World) (hT : Lib.Utf8Tabs 2 3 w) (htab : TabP w) (hb : b < w.heap.size) (hr : RowsK w b off l) (hlen : l.length ≤ 3000) : Calls Tryd.prog 8 #[.slice (some ⟨b, off, none⟩) l.length cap] w fun e w' => ∃ v n, e = .returned (.tuple #[v, .int .i64 n]) ∧ Below w.heap.size w w' ∧ ((l.all goodK = true ∧ n = 0 ∧ OwnK w' w.heap.size v (outK (mg (ixs l)) ++ strs l ++ syms l)) ∨ (l.all goodK = false ∧ n = 5 ∧ v = .slice none 0 0)) := by
  have HRD := hide hr
  have HTP := hide htab
  have HT := hide hT
  clear hT
  clear hr htab
  go_enter Tryd.func8, Tryd.ntmps8
  go_wp2_with fail
  go_loopg [9] l.length (fun g s9 wr => ∃ j : Nat, s9 = .int .i64 j ∧ j ≤ l.length ∧ l.length - j ≤ g ∧ Hid ((l.take j).all goodK = true) ∧ Hid (Below w.heap.size w wr))
  case atStart => exact ⟨0, rfl, by omega, by omega, hide rfl, hide (Below.refl _ _)⟩
  case round =>
    obtain ⟨j, rfl, hj, hg, HA, HB⟩ := hrel
    by_cases hlt : j < l.length
    · have hjz : (j : Int) < l.length := by omega
      obtain ⟨d, hd⟩ : ∃ d, d = l[j] := ⟨_, rfl⟩
      have HR : Hid (wr.rangeAt b (off + j * 2) d.cs) := hide (by rw [hd]; exact (unhide HRD).keep ((unhide HB).block b hb) j hlt)
      have HCk := hide (fun w hT => check12 d.s d.n w hT)
      rw [agg_key] at HCk
      have eg : (kVal d.s d.n).good = goodK d := rfl
      rw [eg] at HCk
      have HTk := hide (all_take hlt)
      have HN := hide (fun hg => all_not (l := l) hlt hg)
      rw [← hd] at HTk HN
      generalize goodK d = gd at *
      clear hd eg
      have LL := hide (Kq.nil wr)
      cases gd
      · simp only [Bool.false_eq_true, if_false] at HCk
        go_wp2_with (first | go_skip | ((with_reducible apply kindex (j := j)); (case ho => rfl); (case hw => rfl); (case hx => rfl); (case hix => rfl); (case hj => exact hlt); simp only [Act.put, List.setIfInBounds_toArray, List.set_cons_succ, List.set_cons_zero]) | ((with_reducible apply kread (d := d)); (case ho => rfl); (case hw => rfl); (case hx => rfl); (case hc => exact unhide HR); simp only [Act.put, List.setIfInBounds_toArray, List.set_cons_succ, List.set_cons_zero]) | ((with_reducible apply kalloc23); (case ho => rfl); (case hw => rfl); (case hL => exact unhide LL); (intro X LX hbX; simp only [Act.put, List.setIfInBounds_toArray, List.set_cons_succ, List.set_cons_zero]; simp only [List.cons_append, List.nil_append] at LX; replace LL := hide LX; clear LX hbX)) | ((with_reducible apply kstore23 (u := d) (l := []) (d := zeroK)); (case ho => rfl); (case hw => rfl); (case hL => exact unhide LL); (case hx => rfl); (case hy => rfl); (case hm => rfl); (case hne => exact fun q hq => by cases hq); (intro X LX hgX hsX; simp only [Act.put, List.setIfInBounds_toArray, List.set_cons_succ, List.set_cons_zero]; simp only [List.cons_append, List.nil_append] at LX; replace LL := hide LX; clear LX hgX hsX)) | ((with_reducible apply load23); (case ho => rfl); (case hw => rfl); (case hx => rfl); (case hc => first | exact (unhide LL).get 0 rfl); simp only [Act.put, List.setIfInBounds_toArray, List.set_cons_succ, List.set_cons_zero]))
        refine (unhide HCk _ (tabs_below (unhide HT) ((unhide HB).trans ((unhide LL).below.mono (unhide HB).size)))).mono ?_
        rintro _ w1 ⟨rfl, hb1⟩
        replace LL := hide ((unhide LL).on hb1)
        have HB1 := hide ((unhide HB).trans ((unhide LL).below.mono (unhide HB).size))
        clear hb1
        go_wp2
        go_ret2
        exact ⟨_, _, rfl, unhide HB1, Or.inr ⟨unhide HN (by trivial), rfl, rfl⟩⟩
      · simp only [if_true] at HCk
        go_wp2_with (first | go_skip | ((with_reducible apply kindex (j := j)); (case ho => rfl); (case hw => rfl); (case hx => rfl); (case hix => rfl); (case hj => exact hlt); simp only [Act.put, List.setIfInBounds_toArray, List.set_cons_succ, List.set_cons_zero]) | ((with_reducible apply kread (d := d)); (case ho => rfl); (case hw => rfl); (case hx => rfl); (case hc => exact unhide HR); simp only [Act.put, List.setIfInBounds_toArray, List.set_cons_succ, List.set_cons_zero]) | ((with_reducible apply kalloc23); (case ho => rfl); (case hw => rfl); (case hL => exact unhide LL); (intro X LX hbX; simp only [Act.put, List.setIfInBounds_toArray, List.set_cons_succ, List.set_cons_zero]; simp only [List.cons_append, List.nil_append] at LX; replace LL := hide LX; clear LX hbX)) | ((with_reducible apply kstore23 (u := d) (l := []) (d := zeroK)); (case ho => rfl); (case hw => rfl); (case hL => exact unhide LL); (case hx => rfl); (case hy => rfl); (case hm => rfl); (case hne => exact fun q hq => by cases hq); (intro X LX hgX hsX; simp only [Act.put, List.setIfInBounds_toArray, List.set_cons_succ, List.set_cons_zero]; simp only [List.cons_append, List.nil_append] at LX; replace LL := hide LX; clear LX hgX hsX)) | ((with_reducible apply load23); (case ho => rfl); (case hw => rfl); (case hx => rfl); (case hc => first | exact (unhide LL).get 0 rfl); simp only [Act.put, List.setIfInBounds_toArray, List.set_cons_succ, List.set_cons_zero]))
        refine (unhide HCk _ (tabs_below (unhide HT) ((unhide HB).trans ((unhide LL).below.mono (unhide HB).size)))).mono ?_
        rintro _ w1 ⟨rfl, hb1⟩
        replace LL := hide ((unhide LL).on hb1)
        have HB1 := hide ((unhide HB).trans ((unhide LL).below.mono (unhide HB).size))
        clear hb1
        go_wp2
        go_roundg (l.length - (j + 1))
        case measure => omega
        case rel => exact ⟨j + 1, by go_num, by omega, Nat.le_refl _, hide (by rw [unhide HTk, unhide HA]; rfl), HB1⟩
    · have hjz : ¬ (j : Int) < l.length := by omega
      have hall : l.all goodK = true := by rw [← unhide HA, List.take_of_length_le (by omega)]
      have HE := hide hall
      have HO := hide (ordered19 (.slice (some ⟨b, off, none⟩) l.length cap) l (fun k hk => goodK_size (List.all_eq_true.1 hall k hk)) wr ((unhide HTP).on (unhide HB)) (.inr ⟨b, off, cap, rfl, Nat.lt_of_lt_of_le hb (unhide HB).size, (unhide HRD).keep ((unhide HB).block b hb)⟩) hlen)
      clear hall
      go_wp2_with fail
      refine (unhide HO).mono ?_
      rintro _ w1 ⟨v1, rfl, ho1, hb1⟩
      have HO1 := hide ho1
      have HB1 := hide ((unhide HB).trans (hb1.mono (unhide HB).size))
      clear ho1 hb1
      go_wp2
      go_ret2
      exact ⟨_, _, rfl, unhide HB1, Or.inl ⟨unhide HE, rfl, (unhide HO1).mono (unhide HB).size⟩⟩
set_option maxHeartbeats 20000000 in
set_option maxRecDepth 100000 in
theorem order_nil (A : Option Addr) (cap : Nat) (w : World) (htab : TabP w) : Calls Tryd.prog 8 #[.slice A 0 cap] w fun e w' => ∃ v n, e = .returned (.tuple #[v, .int .i64 n]) ∧ Below w.heap.size w w' ∧ ((([] : List KK).all goodK = true ∧ n = 0 ∧ OwnK w' w.heap.size v (outK (mg (ixs [])) ++ strs [] ++ syms [])) ∨ (([] : List KK).all goodK = false ∧ n = 5 ∧ v = .slice none 0 0)) := by
  have HTP := hide htab
  clear htab
  go_enter Tryd.func8, Tryd.ntmps8
  go_wp2_with fail
  go_loopg [9] 0 (fun g s9 wr => s9 = .int .i64 0 ∧ wr = w)
  case atStart => exact ⟨rfl, rfl⟩
  case round =>
    obtain ⟨rfl, rfl⟩ := hrel
    have HO := hide (ordered19 (.slice A 0 cap) [] (fun k hk => by cases hk) wr (unhide HTP) (.inl ⟨A, cap, rfl, rfl⟩) (by simp))
    go_wp2_with fail
    refine (unhide HO).mono ?_
    rintro _ w1 ⟨v1, rfl, ho1, hb1⟩
    have HO1 := hide ho1
    have HB1 := hide hb1
    clear ho1 hb1
    go_wp2
    go_ret2
    exact ⟨_, _, rfl, unhide HB1, Or.inl ⟨rfl, rfl, unhide HO1⟩⟩
theorem order8 (v : Value) (l : List KK) (w : World) (hT : Lib.Utf8Tabs 2 3 w) (htab : TabP w) (hr : ReadsK w v l) (hlen : l.length ≤ 3000) : Calls Tryd.prog 8 #[v] w fun e w' => ∃ v n, e = .returned (.tuple #[v, .int .i64 n]) ∧ Below w.heap.size w w' ∧ ((l.all goodK = true ∧ n = 0 ∧ OwnK w' w.heap.size v (outK (mg (ixs l)) ++ strs l ++ syms l)) ∨ (l.all goodK = false ∧ n = 5 ∧ v = .slice none 0 0)) := by
  rcases hr with ⟨A, c, rfl, rfl⟩ | ⟨b, off, cap, rfl, hb, hr⟩
  · exact order_nil A c w htab
  · exact order_rows b off cap l w hT htab hb hr hlen
end Go.Proofs.YtmlofbgnoaobfaaDoor
