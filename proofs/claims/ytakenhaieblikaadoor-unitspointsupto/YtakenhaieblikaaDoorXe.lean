import Derived.Test.YtakenhaieblikaaDoorXd
namespace Go.Proofs.YtakenhaieblikaaDoor
open Go.RowKit Go.Shelf

/-- The step of FromText at the front of some bytes: good, or not. -/
def goodB (l : List Nat) : Prop := ¬ ((M.goD l).1 = 65533 ∧ (M.goD l).2 ≤ 1)
theorem take_E {l : List Nat} (hb : ∀ x ∈ l, x < 256) (h : goodB l) : l.take (M.goD l).2 = M.E (M.goD l).1 ∧ (M.goD l).2 ≤ l.length ∧ (M.goD l).2 ≤ 4 := by
  obtain ⟨h1, h2, h3⟩ := M.goD_inv l hb h
  have e : l.take (M.goD l).2 = M.E (M.goD l).1 := by
    generalize (M.goD l).1 = c at *
    generalize (M.goD l).2 = m at *
    subst h3
    calc l.take (M.E c).length = (M.E c ++ l.drop (M.E c).length).take (M.E c).length := by rw [← h2]
      _ = M.E c := by simp
  refine ⟨e, ?_, by rw [h3]; exact (M.E_len _).2⟩
  have := congrArg List.length e
  rw [List.length_take, ← h3] at this
  omega
theorem take_hit {l : List Nat} {k c : Nat} (hc : M.sca c) (h : l.take k = M.E c) (hk : k ≤ l.length) : goodB l ∧ k = (M.goD l).2 ∧ c = (M.goD l).1 := by
  have e : l = M.E c ++ l.drop k := by rw [← h]; exact (List.take_append_drop k l).symm
  have hg : M.goD l = (c, (M.E c).length) := by
    rw [e]; exact M.goD_E c _ hc.1 hc.2
  have hl := congrArg List.length h
  rw [List.length_take, Nat.min_eq_left hk] at hl
  refine ⟨?_, by rw [hg, hl], by rw [hg]⟩
  rintro ⟨h1, h2⟩
  rw [hg] at h1 h2
  dsimp only at h1 h2
  subst h1
  revert h2; decide
theorem E_cont (c : Nat) (_ : c ≤ 1114111) : ∀ j, 1 ≤ j → j < (M.E c).length → 128 ≤ (M.E c).getD j 0 ∧ (M.E c).getD j 0 ≤ 191 := by
  intro j h1 h2
  unfold M.E at *
  repeat' split at h2
  all_goals (simp at h2)
  · omega
  · obtain rfl : j = 1 := by omega
    rename_i a b
    rw [if_neg a, if_pos b]; simp; omega
  · rename_i a b d
    rw [if_neg a, if_neg b, if_pos d]
    have : j = 1 ∨ j = 2 := by omega
    rcases this with rfl | rfl <;> simp <;> omega
  · rename_i a b d
    rw [if_neg a, if_neg b, if_neg d]
    have : j = 1 ∨ j = 2 ∨ j = 3 := by omega
    rcases this with rfl | rfl | rfl <;> simp <;> omega
theorem good_cont {l : List Nat} (hb : ∀ x ∈ l, x < 256) (h : goodB l) : ∀ j, 1 ≤ j → j < (M.goD l).2 → 128 ≤ l.getD j 0 ∧ l.getD j 0 ≤ 191 := by
  intro j h1 h2
  obtain ⟨e, hl, _⟩ := take_E hb h
  obtain ⟨q1, q2, q3⟩ := M.goD_inv l hb h
  have := E_cont (M.goD l).1 q1 j h1 (by omega)
  rw [← e, List.getD_eq_getElem?_getD, List.getElem?_take, if_pos h2, ← List.getD_eq_getElem?_getD] at this
  exact this
theorem sub_nums (s : ByteArray) (i k : Nat) : nums (s.extract i (i + k)) = ((nums s).drop i).take k := by
  rw [nums_extract2, List.drop_take]; congr 1; omega
theorem u8_sub (s : ByteArray) (i k : Nat) (hk : k ≤ ((nums s).drop i).length) : u8B (s.extract i (i + k)) = true ↔ goodB ((nums s).drop i) ∧ k = (M.goD ((nums s).drop i)).2 := by
  rw [u8_iff, sub_nums s i k]
  have hb : ∀ x ∈ (nums s).drop i, x < 256 := fun x hx => nums_lt s x (List.mem_of_mem_drop hx)
  constructor
  · rintro ⟨c, hc, h⟩
    obtain ⟨h1, h2, _⟩ := take_hit hc h hk
    exact ⟨h1, h2⟩
  · rintro ⟨h1, rfl⟩
    exact ⟨_, M.goD_sca _ hb, (take_E hb h1).1⟩

theorem size_ex (s : ByteArray) (p k : Nat) : (s.extract p (p + k)).size = min (p + k) s.size - p := by simp
theorem str_cells (s : ByteArray) : Lib.strCells s = (nums s).map u8v := by
  unfold Lib.strCells nums
  rw [List.map_map]; rfl

set_option maxHeartbeats 4000000 in
set_option maxRecDepth 100000 in
theorem refFromText_any (s : ByteArray) (hsz : s.size ≤ 1099511627776) (w : World) :
    Calls Tryd.prog 18 #[.string s] w fun e w' => ∃ t, e = .returned (.string t) ∧ nums t = ftL s ∧ Below w.heap.size w w' := by
  obtain ⟨i0, hi, hz0, hz1, hz2⟩ := info_parts info5
  go_enter Tryd.func18, Tryd.ntmps18
  go_wp2
  go_loopw [3, 4] (fun b i wr => ∃ (p n : Nat) (acc : List Nat), i = .int .i64 (p : Nat) ∧ p ≤ s.size ∧ n ≤ 4 * p ∧ (∀ x ∈ acc, x < 256) ∧ wr.ownsRow w.heap.size 5 1 b n (acc.map u8v) ∧ acc ++ (M.runes ((nums s).drop p)).flatMap M.E = ftL s ∧ Below w.heap.size w wr) (fun _ i _ => s.size - (intOf i).toNat)
  case atStart => exact ⟨0, 0, [], rfl, Nat.zero_le _, by omega, by simp, World.ownsRow_nil _ _ _ _, rfl, Below.refl _ _⟩
  case round =>
    obtain ⟨p, n, acc, rfl, hp, hn, h256, hown, hacc, hB⟩ := hrel
    generalize u3 = vb at *
    have HACC := hide hacc; have H256 := hide h256; clear hacc h256
    by_cases hlt : p < s.size
    · have hlt' : (p : Int) < (s.size : Int) := by omega
      have hb256 : ∀ x ∈ (nums s).drop p, x < 256 := fun x hx => nums_lt s x (List.mem_of_mem_drop hx)
      have hne : (nums s).drop p ≠ [] := fun e => by have := congrArg List.length e; rw [List.length_drop, nums_len] at this; simp at this; omega
      have hLl : ((nums s).drop p).length = s.size - p := by rw [List.length_drop, nums_len]
      have hwd := M.goD_pos _ hne
      have hwl := goD_len _ hne
      have hst := M.runes_step _ hne
      rw [List.drop_drop] at hst
      have HTE := hide (fun h => take_E hb256 h)
      have HGC := hide (fun h => good_cont hb256 h)
      have HUS := hide (fun k (hk : k ≤ s.size - p) => u8_sub s p k (by rw [hLl]; exact hk))
      have HSC : Hid (goodB ((nums s).drop p) → Lib.strCells (s.extract p (p + (M.goD ((nums s).drop p)).2)) = (M.E (M.goD ((nums s).drop p)).1).map u8v) := fun h => by
        have h1 := (take_E hb256 h).1
        rw [← sub_nums] at h1
        rw [← h1]
        exact str_cells _
      have hc5 : (M.goD ((nums s).drop p)).1 ≤ 1114111 := (goD_le _ hb256).1
      have HB2 : Hid (¬ goodB ((nums s).drop p) → (M.goD ((nums s).drop p)).1 = 65533 ∧ (M.goD ((nums s).drop p)).2 ≤ 1) := fun h => Decidable.byContradiction fun e => h e
      have HGET : Hid (∀ k, p + k < s.size → ((nums s).drop p).getD k 0 = (nums s).getD (p + k) 0) := fun k _ => by
        rw [List.getD_eq_getElem?_getD, List.getElem?_drop, ← List.getD_eq_getElem?_getD]
      have HST := hide hst; clear hst hb256 hne
      generalize (M.goD ((nums s).drop p)).1 = c at *
      generalize (M.goD ((nums s).drop p)).2 = m at *
      generalize (nums s).drop p = L at *
      rw [hLl] at hwl
      go_wp2
      go_loopw [5] (fun nv wq => wq = wr ∧ ∃ nn : Nat, nv = .int .i64 (nn : Nat) ∧ 1 ≤ nn ∧ nn ≤ 4 ∧ p + nn ≤ s.size) (fun nv _ => 4 - (intOf nv).toNat)
      case atStart => exact ⟨rfl, 1, rfl, by omega, by omega, by omega⟩
      case round =>
        obtain ⟨rfl, nn, rfl, hn1, hn4, hnz⟩ := hrel
        by_cases a1 : nn < 4
        · have a1' : (nn : Int) < 4 := by omega
          by_cases a2 : p + nn < s.size
          · have a2' : (p : Int) + (nn : Int) < (s.size : Int) := by omega
            have a20 : (0 : Int) ≤ (p : Int) + (nn : Int) := by omega
            obtain ⟨x, hx⟩ : ∃ x, s[p + nn]'a2 = x := ⟨_, rfl⟩
            have hxg : L.getD nn 0 = x.toNat := by rw [unhide HGET nn a2, nums_get s (p + nn) a2, hx]
            have hxl := x.toNat_lt
            by_cases c1 : 128 ≤ x.toNat
            · have c1' : (128 : Int) ≤ (x.toNat : Int) := by omega
              by_cases c2 : x.toNat ≤ 191
              · have c2' : (x.toNat : Int) ≤ 191 := by omega
                go_wp2
                go_roundw
                case rel => exact ⟨trivial, nn + 1, by go_num, by omega, by omega, by omega⟩
                case measure => simp [intOf]; omega
              · have c2' : ¬ (x.toNat : Int) ≤ 191 := by omega
                have hmn : goodB L → m ≤ nn := fun hg => by
                  obtain ⟨_, g2, g3⟩ := unhide HTE hg
                  rcases Nat.lt_or_ge nn m with hlt | hge
                  · exfalso
                    have := unhide HGC hg nn hn1 hlt; omega
                  · exact hge
                have HMN := hide hmn; clear hmn hxg
                go_wp2
                go_loopw [3, 4, 6, 7] (fun b i d kk wq => b = vb ∧ i = .int .i64 (p : Nat) ∧ d = .bool false ∧ Below wr.heap.size wr wq ∧ ∃ k : Nat, kk = .int .i64 (k : Nat) ∧ k ≤ nn ∧ (goodB L → m ≤ k)) (fun _ _ _ kk _ => (intOf kk).toNat)
                case atStart => exact ⟨rfl, rfl, rfl, Below.refl _ _, nn, rfl, Nat.le_refl _, unhide HMN⟩
                case round =>
                  rename_i wq
                  obtain ⟨rfl, rfl, rfl, hbq, k, rfl, hkn, hgk⟩ := hrel
                  have HGK := hide hgk; clear hgk
                  have hownq := owns_below hown hbq
                  have hBq := hB.trans (hbq.mono hB.size)
                  by_cases hk0 : 0 < k
                  · have hk0' : (0 : Int) < (k : Int) := by omega
                    have hpk1 : (p : Int) ≤ (p : Int) + (k : Int) := by omega
                    have hpk2 : (p : Int) + (k : Int) ≤ (s.size : Int) := by omega
                    have hp0 : (0 : Int) ≤ (p : Int) := by omega
                    have hus := unhide HUS k (by omega)
                    have HU8 := hide (fun w => utf8_any (s.extract p (p + k)) (by have := size_ex s p k; omega) w)
                    cases hu : u8B (s.extract p (p + k)) with
                    | true =>
                      obtain ⟨hg, hkm⟩ := hus.1 hu
                      rw [hu] at HU8
                      clear hu hus
                      subst hkm
                      have hsc := unhide HSC hg
                      have HSC2 := hide hsc; clear hsc
                      have hes : (s.extract p (p + k)).size = k := by rw [size_ex]; omega
                      have HES := hide hes
                      have hE := M.E_len c
                      go_wp2_with fail
                      refine (unhide HU8 _).mono ?_
                      rintro e w5 ⟨rfl, hb5⟩
                      have hown5 := owns_below hownq hb5
                      have hB5 := hBq.trans (hb5.mono hBq.size)
                      go_wp2_with (at_builtin; refine Lib.wpList_append_own_string _ rfl _ _ 70 9 rfl w.heap.size 5 i0 Tryd.underlying70 Tryd.underlying9 hi hz0 hz1 hz2 _ _ _ rfl hown5 (s.extract p (p + k)) rfl (by rw [hes]; unfold maxLen; omega) (by rw [hes]; omega) hB5.size ?_; intro v' w6 hown6 hgrow6 _)
                      go_wp2
                      go_roundw
                      case rel =>
                        rw [unhide HES, unhide HSC2, ← List.map_append] at hown6
                        refine ⟨p + k, n + k, acc ++ M.E c, by go_num, by omega, by omega, fun x hx => ?_, hown6, ?_, hB5.grown hgrow6 hB5.size fun j ej => (hown5.lt j ej).1⟩
                        · rcases List.mem_append.1 hx with h | h
                          · exact unhide H256 x h
                          · exact E_256 c hc5 x h
                        · rw [← unhide HACC, unhide HST, List.flatMap_cons, List.append_assoc]
                      case measure => simp [intOf]; omega
                    | false =>
                      have hnk : ¬ (goodB L ∧ k = m) := fun e => by rw [hus.2 e] at hu; cases hu
                      rw [hu] at HU8
                      have hgk2 : goodB L → m ≤ k - 1 := fun hg => by
                        have h1 := unhide HGK hg
                        rcases Nat.lt_or_ge m k with h | h
                        · omega
                        · exact absurd ⟨hg, by omega⟩ hnk
                      have HGK2 := hide hgk2
                      clear hu hus hnk hgk2
                      go_wp2_with fail
                      refine (unhide HU8 _).mono ?_
                      rintro e w5 ⟨rfl, hb5⟩
                      go_wp2
                      go_roundw
                      case rel => exact ⟨rfl, rfl, rfl, hbq.trans (hb5.mono hbq.size), k - 1, by go_num, by omega, unhide HGK2⟩
                      case measure => simp [intOf]; omega
                  · have hk0' : ¬ (0 : Int) < (k : Int) := by omega
                    have hng : ¬ goodB L := fun hg => by have := unhide HGK hg; omega
                    obtain ⟨hc65, hm1⟩ := unhide HB2 hng
                    have hm1' : m = 1 := by omega
                    have HC65 := hide hc65; have HM1 := hide hm1'
                    clear hng hc65 hm1 hm1'
                    go_wp2_with (at_builtin; refine wpList_append_own _ rfl _ _ 70 rfl w.heap.size 5 i0 (.int .u8 0) 1 1 Tryd.underlying70 hi hz0 hz1 hz2 rfl (by decide) _ _ _ rfl (hownq.alloc _) ⟨wr.heap.size, 0, none⟩ 3 3 [.int .u8 239, .int .u8 191, .int .u8 189] rfl rfl (news_cells _ #[.int .u8 239, .int .u8 191, .int .u8 189] 5) (by simp [Value.oneCell']) (by unfold maxLen; omega) (by omega) (by have := hBq.size; simp; omega) ?_; intro v' w6 hown6 hgrow6 _)
                    go_wp2
                    go_roundw
                    case rel =>
                      have e3 : [Value.int .u8 239, .int .u8 191, .int .u8 189] = (M.E 65533).map u8v := by
                        have : M.E 65533 = [239, 191, 189] := by decide
                        rw [this]; rfl
                      rw [e3, ← List.map_append] at hown6
                      refine ⟨p + 1, n + 3, acc ++ M.E 65533, by go_num, by omega, by omega, fun x hx => ?_, hown6, ?_, hBq.trans (below_app hownq hBq.size hgrow6)⟩
                      · rcases List.mem_append.1 hx with h | h
                        · exact unhide H256 x h
                        · exact E_256 65533 (by omega) x h
                      · rw [← unhide HACC, unhide HST, List.flatMap_cons, List.append_assoc, unhide HC65, unhide HM1]
                    case measure => simp [intOf]; omega
            · have c1' : ¬ (128 : Int) ≤ (x.toNat : Int) := by omega
              have hmn : goodB L → m ≤ nn := fun hg => by
                obtain ⟨_, g2, g3⟩ := unhide HTE hg
                rcases Nat.lt_or_ge nn m with hlt | hge
                · exfalso
                  have := unhide HGC hg nn hn1 hlt; omega
                · exact hge
              have HMN := hide hmn; clear hmn hxg
              go_wp2
              go_loopw [3, 4, 6, 7] (fun b i d kk wq => b = vb ∧ i = .int .i64 (p : Nat) ∧ d = .bool false ∧ Below wr.heap.size wr wq ∧ ∃ k : Nat, kk = .int .i64 (k : Nat) ∧ k ≤ nn ∧ (goodB L → m ≤ k)) (fun _ _ _ kk _ => (intOf kk).toNat)
              case atStart => exact ⟨rfl, rfl, rfl, Below.refl _ _, nn, rfl, Nat.le_refl _, unhide HMN⟩
              case round =>
                rename_i wq
                obtain ⟨rfl, rfl, rfl, hbq, k, rfl, hkn, hgk⟩ := hrel
                have HGK := hide hgk; clear hgk
                have hownq := owns_below hown hbq
                have hBq := hB.trans (hbq.mono hB.size)
                by_cases hk0 : 0 < k
                · have hk0' : (0 : Int) < (k : Int) := by omega
                  have hpk1 : (p : Int) ≤ (p : Int) + (k : Int) := by omega
                  have hpk2 : (p : Int) + (k : Int) ≤ (s.size : Int) := by omega
                  have hp0 : (0 : Int) ≤ (p : Int) := by omega
                  have hus := unhide HUS k (by omega)
                  have HU8 := hide (fun w => utf8_any (s.extract p (p + k)) (by have := size_ex s p k; omega) w)
                  cases hu : u8B (s.extract p (p + k)) with
                  | true =>
                    obtain ⟨hg, hkm⟩ := hus.1 hu
                    rw [hu] at HU8
                    clear hu hus
                    subst hkm
                    have hsc := unhide HSC hg
                    have HSC2 := hide hsc; clear hsc
                    have hes : (s.extract p (p + k)).size = k := by rw [size_ex]; omega
                    have HES := hide hes
                    have hE := M.E_len c
                    go_wp2_with fail
                    refine (unhide HU8 _).mono ?_
                    rintro e w5 ⟨rfl, hb5⟩
                    have hown5 := owns_below hownq hb5
                    have hB5 := hBq.trans (hb5.mono hBq.size)
                    go_wp2_with (at_builtin; refine Lib.wpList_append_own_string _ rfl _ _ 70 9 rfl w.heap.size 5 i0 Tryd.underlying70 Tryd.underlying9 hi hz0 hz1 hz2 _ _ _ rfl hown5 (s.extract p (p + k)) rfl (by rw [hes]; unfold maxLen; omega) (by rw [hes]; omega) hB5.size ?_; intro v' w6 hown6 hgrow6 _)
                    go_wp2
                    go_roundw
                    case rel =>
                      rw [unhide HES, unhide HSC2, ← List.map_append] at hown6
                      refine ⟨p + k, n + k, acc ++ M.E c, by go_num, by omega, by omega, fun x hx => ?_, hown6, ?_, hB5.grown hgrow6 hB5.size fun j ej => (hown5.lt j ej).1⟩
                      · rcases List.mem_append.1 hx with h | h
                        · exact unhide H256 x h
                        · exact E_256 c hc5 x h
                      · rw [← unhide HACC, unhide HST, List.flatMap_cons, List.append_assoc]
                    case measure => simp [intOf]; omega
                  | false =>
                    have hnk : ¬ (goodB L ∧ k = m) := fun e => by rw [hus.2 e] at hu; cases hu
                    rw [hu] at HU8
                    have hgk2 : goodB L → m ≤ k - 1 := fun hg => by
                      have h1 := unhide HGK hg
                      rcases Nat.lt_or_ge m k with h | h
                      · omega
                      · exact absurd ⟨hg, by omega⟩ hnk
                    have HGK2 := hide hgk2
                    clear hu hus hnk hgk2
                    go_wp2_with fail
                    refine (unhide HU8 _).mono ?_
                    rintro e w5 ⟨rfl, hb5⟩
                    go_wp2
                    go_roundw
                    case rel => exact ⟨rfl, rfl, rfl, hbq.trans (hb5.mono hbq.size), k - 1, by go_num, by omega, unhide HGK2⟩
                    case measure => simp [intOf]; omega
                · have hk0' : ¬ (0 : Int) < (k : Int) := by omega
                  have hng : ¬ goodB L := fun hg => by have := unhide HGK hg; omega
                  obtain ⟨hc65, hm1⟩ := unhide HB2 hng
                  have hm1' : m = 1 := by omega
                  have HC65 := hide hc65; have HM1 := hide hm1'
                  clear hng hc65 hm1 hm1'
                  go_wp2_with (at_builtin; refine wpList_append_own _ rfl _ _ 70 rfl w.heap.size 5 i0 (.int .u8 0) 1 1 Tryd.underlying70 hi hz0 hz1 hz2 rfl (by decide) _ _ _ rfl (hownq.alloc _) ⟨wr.heap.size, 0, none⟩ 3 3 [.int .u8 239, .int .u8 191, .int .u8 189] rfl rfl (news_cells _ #[.int .u8 239, .int .u8 191, .int .u8 189] 5) (by simp [Value.oneCell']) (by unfold maxLen; omega) (by omega) (by have := hBq.size; simp; omega) ?_; intro v' w6 hown6 hgrow6 _)
                  go_wp2
                  go_roundw
                  case rel =>
                    have e3 : [Value.int .u8 239, .int .u8 191, .int .u8 189] = (M.E 65533).map u8v := by
                      have : M.E 65533 = [239, 191, 189] := by decide
                      rw [this]; rfl
                    rw [e3, ← List.map_append] at hown6
                    refine ⟨p + 1, n + 3, acc ++ M.E 65533, by go_num, by omega, by omega, fun x hx => ?_, hown6, ?_, hBq.trans (below_app hownq hBq.size hgrow6)⟩
                    · rcases List.mem_append.1 hx with h | h
                      · exact unhide H256 x h
                      · exact E_256 65533 (by omega) x h
                    · rw [← unhide HACC, unhide HST, List.flatMap_cons, List.append_assoc, unhide HC65, unhide HM1]
                  case measure => simp [intOf]; omega
          · have a2' : ¬ (p : Int) + (nn : Int) < (s.size : Int) := by omega
            have hmn : goodB L → m ≤ nn := fun hg => by
              obtain ⟨_, g2, g3⟩ := unhide HTE hg
              rcases Nat.lt_or_ge nn m with hlt | hge
              · exfalso
                omega
              · exact hge
            have HMN := hide hmn; clear hmn 
            go_wp2
            go_loopw [3, 4, 6, 7] (fun b i d kk wq => b = vb ∧ i = .int .i64 (p : Nat) ∧ d = .bool false ∧ Below wr.heap.size wr wq ∧ ∃ k : Nat, kk = .int .i64 (k : Nat) ∧ k ≤ nn ∧ (goodB L → m ≤ k)) (fun _ _ _ kk _ => (intOf kk).toNat)
            case atStart => exact ⟨rfl, rfl, rfl, Below.refl _ _, nn, rfl, Nat.le_refl _, unhide HMN⟩
            case round =>
              rename_i wq
              obtain ⟨rfl, rfl, rfl, hbq, k, rfl, hkn, hgk⟩ := hrel
              have HGK := hide hgk; clear hgk
              have hownq := owns_below hown hbq
              have hBq := hB.trans (hbq.mono hB.size)
              by_cases hk0 : 0 < k
              · have hk0' : (0 : Int) < (k : Int) := by omega
                have hpk1 : (p : Int) ≤ (p : Int) + (k : Int) := by omega
                have hpk2 : (p : Int) + (k : Int) ≤ (s.size : Int) := by omega
                have hp0 : (0 : Int) ≤ (p : Int) := by omega
                have hus := unhide HUS k (by omega)
                have HU8 := hide (fun w => utf8_any (s.extract p (p + k)) (by have := size_ex s p k; omega) w)
                cases hu : u8B (s.extract p (p + k)) with
                | true =>
                  obtain ⟨hg, hkm⟩ := hus.1 hu
                  rw [hu] at HU8
                  clear hu hus
                  subst hkm
                  have hsc := unhide HSC hg
                  have HSC2 := hide hsc; clear hsc
                  have hes : (s.extract p (p + k)).size = k := by rw [size_ex]; omega
                  have HES := hide hes
                  have hE := M.E_len c
                  go_wp2_with fail
                  refine (unhide HU8 _).mono ?_
                  rintro e w5 ⟨rfl, hb5⟩
                  have hown5 := owns_below hownq hb5
                  have hB5 := hBq.trans (hb5.mono hBq.size)
                  go_wp2_with (at_builtin; refine Lib.wpList_append_own_string _ rfl _ _ 70 9 rfl w.heap.size 5 i0 Tryd.underlying70 Tryd.underlying9 hi hz0 hz1 hz2 _ _ _ rfl hown5 (s.extract p (p + k)) rfl (by rw [hes]; unfold maxLen; omega) (by rw [hes]; omega) hB5.size ?_; intro v' w6 hown6 hgrow6 _)
                  go_wp2
                  go_roundw
                  case rel =>
                    rw [unhide HES, unhide HSC2, ← List.map_append] at hown6
                    refine ⟨p + k, n + k, acc ++ M.E c, by go_num, by omega, by omega, fun x hx => ?_, hown6, ?_, hB5.grown hgrow6 hB5.size fun j ej => (hown5.lt j ej).1⟩
                    · rcases List.mem_append.1 hx with h | h
                      · exact unhide H256 x h
                      · exact E_256 c hc5 x h
                    · rw [← unhide HACC, unhide HST, List.flatMap_cons, List.append_assoc]
                  case measure => simp [intOf]; omega
                | false =>
                  have hnk : ¬ (goodB L ∧ k = m) := fun e => by rw [hus.2 e] at hu; cases hu
                  rw [hu] at HU8
                  have hgk2 : goodB L → m ≤ k - 1 := fun hg => by
                    have h1 := unhide HGK hg
                    rcases Nat.lt_or_ge m k with h | h
                    · omega
                    · exact absurd ⟨hg, by omega⟩ hnk
                  have HGK2 := hide hgk2
                  clear hu hus hnk hgk2
                  go_wp2_with fail
                  refine (unhide HU8 _).mono ?_
                  rintro e w5 ⟨rfl, hb5⟩
                  go_wp2
                  go_roundw
                  case rel => exact ⟨rfl, rfl, rfl, hbq.trans (hb5.mono hbq.size), k - 1, by go_num, by omega, unhide HGK2⟩
                  case measure => simp [intOf]; omega
              · have hk0' : ¬ (0 : Int) < (k : Int) := by omega
                have hng : ¬ goodB L := fun hg => by have := unhide HGK hg; omega
                obtain ⟨hc65, hm1⟩ := unhide HB2 hng
                have hm1' : m = 1 := by omega
                have HC65 := hide hc65; have HM1 := hide hm1'
                clear hng hc65 hm1 hm1'
                go_wp2_with (at_builtin; refine wpList_append_own _ rfl _ _ 70 rfl w.heap.size 5 i0 (.int .u8 0) 1 1 Tryd.underlying70 hi hz0 hz1 hz2 rfl (by decide) _ _ _ rfl (hownq.alloc _) ⟨wr.heap.size, 0, none⟩ 3 3 [.int .u8 239, .int .u8 191, .int .u8 189] rfl rfl (news_cells _ #[.int .u8 239, .int .u8 191, .int .u8 189] 5) (by simp [Value.oneCell']) (by unfold maxLen; omega) (by omega) (by have := hBq.size; simp; omega) ?_; intro v' w6 hown6 hgrow6 _)
                go_wp2
                go_roundw
                case rel =>
                  have e3 : [Value.int .u8 239, .int .u8 191, .int .u8 189] = (M.E 65533).map u8v := by
                    have : M.E 65533 = [239, 191, 189] := by decide
                    rw [this]; rfl
                  rw [e3, ← List.map_append] at hown6
                  refine ⟨p + 1, n + 3, acc ++ M.E 65533, by go_num, by omega, by omega, fun x hx => ?_, hown6, ?_, hBq.trans (below_app hownq hBq.size hgrow6)⟩
                  · rcases List.mem_append.1 hx with h | h
                    · exact unhide H256 x h
                    · exact E_256 65533 (by omega) x h
                  · rw [← unhide HACC, unhide HST, List.flatMap_cons, List.append_assoc, unhide HC65, unhide HM1]
                case measure => simp [intOf]; omega
        · have a1' : ¬ (nn : Int) < 4 := by omega
          have hmn : goodB L → m ≤ nn := fun hg => by
            obtain ⟨_, g2, g3⟩ := unhide HTE hg
            rcases Nat.lt_or_ge nn m with hlt | hge
            · exfalso
              omega
            · exact hge
          have HMN := hide hmn; clear hmn 
          go_wp2
          go_loopw [3, 4, 6, 7] (fun b i d kk wq => b = vb ∧ i = .int .i64 (p : Nat) ∧ d = .bool false ∧ Below wr.heap.size wr wq ∧ ∃ k : Nat, kk = .int .i64 (k : Nat) ∧ k ≤ nn ∧ (goodB L → m ≤ k)) (fun _ _ _ kk _ => (intOf kk).toNat)
          case atStart => exact ⟨rfl, rfl, rfl, Below.refl _ _, nn, rfl, Nat.le_refl _, unhide HMN⟩
          case round =>
            rename_i wq
            obtain ⟨rfl, rfl, rfl, hbq, k, rfl, hkn, hgk⟩ := hrel
            have HGK := hide hgk; clear hgk
            have hownq := owns_below hown hbq
            have hBq := hB.trans (hbq.mono hB.size)
            by_cases hk0 : 0 < k
            · have hk0' : (0 : Int) < (k : Int) := by omega
              have hpk1 : (p : Int) ≤ (p : Int) + (k : Int) := by omega
              have hpk2 : (p : Int) + (k : Int) ≤ (s.size : Int) := by omega
              have hp0 : (0 : Int) ≤ (p : Int) := by omega
              have hus := unhide HUS k (by omega)
              have HU8 := hide (fun w => utf8_any (s.extract p (p + k)) (by have := size_ex s p k; omega) w)
              cases hu : u8B (s.extract p (p + k)) with
              | true =>
                obtain ⟨hg, hkm⟩ := hus.1 hu
                rw [hu] at HU8
                clear hu hus
                subst hkm
                have hsc := unhide HSC hg
                have HSC2 := hide hsc; clear hsc
                have hes : (s.extract p (p + k)).size = k := by rw [size_ex]; omega
                have HES := hide hes
                have hE := M.E_len c
                go_wp2_with fail
                refine (unhide HU8 _).mono ?_
                rintro e w5 ⟨rfl, hb5⟩
                have hown5 := owns_below hownq hb5
                have hB5 := hBq.trans (hb5.mono hBq.size)
                go_wp2_with (at_builtin; refine Lib.wpList_append_own_string _ rfl _ _ 70 9 rfl w.heap.size 5 i0 Tryd.underlying70 Tryd.underlying9 hi hz0 hz1 hz2 _ _ _ rfl hown5 (s.extract p (p + k)) rfl (by rw [hes]; unfold maxLen; omega) (by rw [hes]; omega) hB5.size ?_; intro v' w6 hown6 hgrow6 _)
                go_wp2
                go_roundw
                case rel =>
                  rw [unhide HES, unhide HSC2, ← List.map_append] at hown6
                  refine ⟨p + k, n + k, acc ++ M.E c, by go_num, by omega, by omega, fun x hx => ?_, hown6, ?_, hB5.grown hgrow6 hB5.size fun j ej => (hown5.lt j ej).1⟩
                  · rcases List.mem_append.1 hx with h | h
                    · exact unhide H256 x h
                    · exact E_256 c hc5 x h
                  · rw [← unhide HACC, unhide HST, List.flatMap_cons, List.append_assoc]
                case measure => simp [intOf]; omega
              | false =>
                have hnk : ¬ (goodB L ∧ k = m) := fun e => by rw [hus.2 e] at hu; cases hu
                rw [hu] at HU8
                have hgk2 : goodB L → m ≤ k - 1 := fun hg => by
                  have h1 := unhide HGK hg
                  rcases Nat.lt_or_ge m k with h | h
                  · omega
                  · exact absurd ⟨hg, by omega⟩ hnk
                have HGK2 := hide hgk2
                clear hu hus hnk hgk2
                go_wp2_with fail
                refine (unhide HU8 _).mono ?_
                rintro e w5 ⟨rfl, hb5⟩
                go_wp2
                go_roundw
                case rel => exact ⟨rfl, rfl, rfl, hbq.trans (hb5.mono hbq.size), k - 1, by go_num, by omega, unhide HGK2⟩
                case measure => simp [intOf]; omega
            · have hk0' : ¬ (0 : Int) < (k : Int) := by omega
              have hng : ¬ goodB L := fun hg => by have := unhide HGK hg; omega
              obtain ⟨hc65, hm1⟩ := unhide HB2 hng
              have hm1' : m = 1 := by omega
              have HC65 := hide hc65; have HM1 := hide hm1'
              clear hng hc65 hm1 hm1'
              go_wp2_with (at_builtin; refine wpList_append_own _ rfl _ _ 70 rfl w.heap.size 5 i0 (.int .u8 0) 1 1 Tryd.underlying70 hi hz0 hz1 hz2 rfl (by decide) _ _ _ rfl (hownq.alloc _) ⟨wr.heap.size, 0, none⟩ 3 3 [.int .u8 239, .int .u8 191, .int .u8 189] rfl rfl (news_cells _ #[.int .u8 239, .int .u8 191, .int .u8 189] 5) (by simp [Value.oneCell']) (by unfold maxLen; omega) (by omega) (by have := hBq.size; simp; omega) ?_; intro v' w6 hown6 hgrow6 _)
              go_wp2
              go_roundw
              case rel =>
                have e3 : [Value.int .u8 239, .int .u8 191, .int .u8 189] = (M.E 65533).map u8v := by
                  have : M.E 65533 = [239, 191, 189] := by decide
                  rw [this]; rfl
                rw [e3, ← List.map_append] at hown6
                refine ⟨p + 1, n + 3, acc ++ M.E 65533, by go_num, by omega, by omega, fun x hx => ?_, hown6, ?_, hBq.trans (below_app hownq hBq.size hgrow6)⟩
                · rcases List.mem_append.1 hx with h | h
                  · exact unhide H256 x h
                  · exact E_256 65533 (by omega) x h
                · rw [← unhide HACC, unhide HST, List.flatMap_cons, List.append_assoc, unhide HC65, unhide HM1]
              case measure => simp [intOf]; omega
    · have hlt' : ¬ (p : Int) < (s.size : Int) := by omega
      obtain ⟨t, hconv, hns⟩ := run_str wr w.heap.size n vb acc hown (unhide H256)
      have HNS := hide hns; clear hns
      go_wp2
      go_ret
      refine ⟨t, rfl, ?_, hB⟩
      have h0 : (nums s).drop p = [] := List.drop_eq_nil_of_le (by rw [nums_len]; omega)
      have := unhide HACC
      rw [h0, M.runes_nil, List.flatMap_nil, List.append_nil] at this
      rw [unhide HNS, this]
end Go.Proofs.YtakenhaieblikaaDoor
