import Derived.Test.YtnlbapheggnlpaaDoorWp
import Derived.Laws.OwnMore
import Derived.Deep.Cut
namespace Go.Proofs.YtnlbapheggnlpaaDoor
open Go.RowKit Go.Shelf

theorem erS_ok {s : ByteArray} (h : vS s = true) : erS s = 0 := by unfold erS; rw [h]; rfl
theorem erS_bad {s : ByteArray} (h : vS s = false) : erS s = 10 := by unfold erS; rw [h]; rfl
theorem own_cells {w w' : World} {B g n c : Nat} {l : List Nat} (h : w.ownsRow B 38 1 (.slice (some ⟨g, 0, none⟩) n c) n (l.map u16v)) (hb : Below w.heap.size w w') : ∀ j u, (l.map u16v)[j]? = some u → w'.cell? ((⟨g, 0, none⟩ : Addr).add j) = some u := by
  intro j u hj
  rw [add_plain]
  have h1 := h.cells (g := g) rfl j u hj
  rw [add_plain] at h1
  exact (hb.cell (p := ⟨g, 0 + j, none⟩) (h.lt g rfl).2).trans h1
theorem u16_one (l : List Nat) : ∀ u ∈ l.map u16v, u.oneCell' = true := by
  intro u hu; rw [List.mem_map] at hu; obtain ⟨x, _, rfl⟩ := hu; simp [u16v, Value.oneCell']

set_option maxHeartbeats 2000000 in
set_option maxRecDepth 100000 in
theorem refConcat_any (a b : ByteArray) (hsa : a.size ≤ 549755813888) (hsb : b.size ≤ 549755813888) (w : World) :
    Calls Tryd.prog 29 #[.string a, .string b] w fun e w' => ∃ t, e = .returned (.tuple #[.string t, .int .i64 (catE a b)]) ∧ nums t = catL a b ∧ Below w.heap.size w w' := by
  obtain ⟨i0, hi, hz0, hz1, hz2⟩ := info_parts info38
  have hua := refUnits_any a (by omega) w
  have HUB := hide (fun w => refUnits_any b (by omega) w)
  have hla := unS_len a; have hlb := unS_len b
  have hs16 : ∀ x ∈ unS a ++ unS b, x < 65536 := fun x hx => by
    rw [List.mem_append] at hx
    rcases hx with hx | hx
    · exact unS_small a x hx
    · exact unS_small b x hx
  have hbad := @cat_bad a b
  have hlong := @cat_long a b
  have hok := @cat_ok a b
  have hcr : catR a b = M.ofL (unS a ++ unS b) := rfl
  unfold okC at hbad hlong hok
  have ea := @erS_ok a; have eb := @erS_ok b; have ea' := @erS_bad a; have eb' := @erS_bad b
  generalize catE a b = CE at *
  generalize catL a b = CL at *
  generalize catR a b = CR at *
  generalize unS a = la at *
  generalize unS b = lb at *
  generalize erS a = xa at *
  generalize erS b = xb at *
  generalize vS a = va at *
  generalize vS b = vb at *
  have HUA := hide hua; clear hua
  have HS16 := hide hs16; clear hs16
  have HCR := hide hcr; clear hcr
  have hn0 : nums ⟨#[]⟩ = [] := rfl
  cases va with
  | false =>
    obtain ⟨rfl, rfl⟩ := hbad rfl
    obtain rfl := ea' rfl
    clear hbad hlong hok ea ea' eb eb'
    go_enter Tryd.func29, Tryd.ntmps29
    go_wp2_with fail
    refine (unhide HUA).mono ?_
    rintro e w1 ⟨v1, rfl, hown1, hb1⟩
    go_wp2_with fail
    refine (unhide HUB w1).mono ?_
    rintro e w2 ⟨v2, rfl, hown2, hb2⟩
    go_wp2
    go_ret2
    exact ⟨_, rfl, hn0, hb1.trans (hb2.mono hb1.size)⟩
  | true =>
    obtain rfl := ea rfl
    cases vb with
    | false =>
      obtain ⟨rfl, rfl⟩ := hbad rfl
      obtain rfl := eb' rfl
      clear hbad hlong hok ea ea' eb eb'
      go_enter Tryd.func29, Tryd.ntmps29
      go_wp2_with fail
      refine (unhide HUA).mono ?_
      rintro e w1 ⟨v1, rfl, hown1, hb1⟩
      go_wp2_with fail
      refine (unhide HUB w1).mono ?_
      rintro e w2 ⟨v2, rfl, hown2, hb2⟩
      go_wp2
      go_ret2
      exact ⟨_, rfl, hn0, hb1.trans (hb2.mono hb1.size)⟩
    | true =>
      obtain rfl := eb rfl
      have hlong' := hlong rfl; have hok' := hok rfl
      clear hbad hlong hok ea ea' eb eb'
      have HLONG := hide hlong'; have HOK := hide hok'; clear hlong' hok'
      go_enter Tryd.func29, Tryd.ntmps29
      go_wp2_with fail
      refine (unhide HUA).mono ?_
      rintro e w1 ⟨v1, rfl, hown1, hb1⟩
      go_wp2_with fail
      refine (unhide HUB w1).mono ?_
      rintro e w2 ⟨v2, rfl, hown2, hb2⟩
      have hB2 := hb1.trans (hb2.mono hb1.size)
      have ho1 := owns_below hown1 hb2
      clear hown1
      go_upto_region 5 with fail
      go_cut [10] from 27 (fun t wc => ∃ s, t = .string s ∧ nums s = CR ∧ Below w.heap.size w wc)
      case first =>
        have h0 : (w2.alloc (.cells #[] 38)).ownsRow w2.heap.size 38 1 (.slice (some ⟨w2.heap.size, 0, none⟩) 0 0) 0 [] := World.ownsRow_lit w2 #[] 0 (Nat.le_refl _) (by unfold maxLen; omega) rfl
        have hba : Below w2.heap.size w2 (w2.alloc (.cells #[] 38)) := (Below.refl _ _).alloc (Nat.le_refl _) _
        rcases ho1.2 with ⟨h1a, hla0⟩ | ⟨g1, c1, cur1, h1a, _, _, hnc1, _⟩
        · have hlae : la = [] := List.length_eq_zero_iff.1 hla0
          subst h1a
          rcases hown2.2 with ⟨h2a, hlb0⟩ | ⟨g2, c2, cur2, h2a, _, _, hnc2, _⟩
          · have hlbe : lb = [] := List.length_eq_zero_iff.1 hlb0
            subst h2a
            go_wp2_with fail
            refine (refOf_any _ (la ++ lb) (unhide HS16) (by rw [List.length_append]; omega) _ (.inl ⟨_, _, rfl, by rw [hlae, hlbe]; rfl⟩)).mono ?_
            rintro e w6 ⟨t, rfl, ht, hb6⟩
            have HT6 := hide ht; clear ht
            go_wp2_with fail
            go_meet
            case rel => exact ⟨t, rfl, by rw [unhide HCR]; exact unhide HT6, hB2.trans ((hba.trans (hb6.mono hba.size)).mono hB2.size)⟩
          · subst h2a
            have hc2 := own_cells hown2 hba
            have HC2 := hide hc2; clear hc2
            go_wp2_with (at_builtin; refine wpList_append_own _ rfl _ _ 37 rfl w2.heap.size 38 i0 (.int .u16 0) 1 2 Tryd.underlying37 hi hz0 hz1 hz2 rfl (by decide) _ _ _ rfl h0 ⟨g2, 0, none⟩ lb.length c2 (lb.map u16v) rfl (by simp) (unhide HC2) (u16_one lb) (by unfold maxLen; omega) (by omega) (by simp) ?_; intro v5 w5 hown5 hgrow5 _)
            have hB5 : Below w2.heap.size w2 w5 := hba.grown hgrow5 (by simp) fun j ej => Nat.le_of_eq (Option.some.inj ej)
            simp only [Nat.zero_add, List.nil_append] at hown5
            refine (refOf_any _ (la ++ lb) (unhide HS16) (by rw [List.length_append]; omega) _ (by rw [hlae, List.nil_append]; exact reads_own hown5)).mono ?_
            rintro e w6 ⟨t, rfl, ht, hb6⟩
            have HT6 := hide ht; clear ht
            go_wp2_with fail
            go_meet
            case rel => exact ⟨t, rfl, by rw [unhide HCR]; exact unhide HT6, hB2.trans ((hB5.trans (hb6.mono hB5.size)).mono hB2.size)⟩
        · subst h1a
          have hc1 := own_cells ho1 hba
          have HC1 := hide hc1; clear hc1
          rcases hown2.2 with ⟨h2a, hlb0⟩ | ⟨g2, c2, cur2, h2a, _, _, hnc2, _⟩
          · have hlbe : lb = [] := List.length_eq_zero_iff.1 hlb0
            subst h2a
            go_wp2_with (at_builtin; refine wpList_append_own _ rfl _ _ 37 rfl w2.heap.size 38 i0 (.int .u16 0) 1 2 Tryd.underlying37 hi hz0 hz1 hz2 rfl (by decide) _ _ _ rfl h0 ⟨g1, 0, none⟩ la.length c1 (la.map u16v) rfl (by simp) (unhide HC1) (u16_one la) (by unfold maxLen; omega) (by omega) (by simp) ?_; intro v4 w4 hown4 hgrow4 hiff4; simp only [Nat.zero_add, List.nil_append] at hown4; rcases hown4.2 with ⟨h4a, _⟩ | ⟨g4, c4, cur4, rfl, _, _, hnc4, _⟩; · (exact absurd (hiff4.1 h4a).1 (by simp [Act.eval]))
)
            have hB4 : Below w2.heap.size w2 w4 := hba.grown hgrow4 (by simp) fun j ej => Nat.le_of_eq (Option.some.inj ej)
            refine (refOf_any _ (la ++ lb) (unhide HS16) (by rw [List.length_append]; omega) _ (by rw [hlbe, List.append_nil]; exact reads_own hown4)).mono ?_
            rintro e w6 ⟨t, rfl, ht, hb6⟩
            have HT6 := hide ht; clear ht
            go_wp2_with fail
            go_meet
            case rel => exact ⟨t, rfl, by rw [unhide HCR]; exact unhide HT6, hB2.trans ((hB4.trans (hb6.mono hB4.size)).mono hB2.size)⟩
          · subst h2a
            have HC2 := hide (fun (W : World) (h : Below w2.heap.size w2 W) => own_cells hown2 h)
            go_wp2_with (at_builtin; first
              | (refine wpList_append_own _ rfl _ _ 37 rfl w2.heap.size 38 i0 (.int .u16 0) 1 2 Tryd.underlying37 hi hz0 hz1 hz2 rfl (by decide) _ _ _ rfl h0 ⟨g1, 0, none⟩ la.length c1 (la.map u16v) rfl (by simp) (unhide HC1) (u16_one la) (by unfold maxLen; omega) (by omega) (by simp) ?_; intro v4 w4 hown4 hgrow4 _; clear h0; simp only [Nat.zero_add, List.nil_append] at hown4; have hB4 : Below w2.heap.size w2 w4 := hba.grown hgrow4 (by simp) (fun j ej => Nat.le_of_eq (Option.some.inj ej)))
              | (refine wpList_append_own _ rfl _ _ 37 rfl w2.heap.size 38 i0 (.int .u16 0) 1 2 Tryd.underlying37 hi hz0 hz1 hz2 rfl (by decide) _ _ _ rfl hown4 ⟨g2, 0, none⟩ lb.length c2 (lb.map u16v) rfl (by simp) (unhide HC2 w4 hB4) (u16_one lb) (by unfold maxLen; omega) (by omega) hB4.size ?_; intro v5 w5 hown5 hgrow5 _))
            have hB5 : Below w2.heap.size w2 w5 := hB4.grown hgrow5 hB4.size fun j ej => (hown4.lt j ej).1
            refine (refOf_any _ (la ++ lb) (unhide HS16) (by rw [List.length_append]; omega) _ (reads_own (by rw [List.map_append, List.length_append]; exact hown5))).mono ?_
            rintro e w6 ⟨t, rfl, ht, hb6⟩
            have HT6 := hide ht; clear ht
            go_wp2_with fail
            go_meet
            case rel => exact ⟨t, rfl, by rw [unhide HCR]; exact unhide HT6, hB2.trans ((hB5.trans (hb6.mono hB5.size)).mono hB2.size)⟩
      case rest =>
        obtain ⟨s, rfl, hns, hBc⟩ := hcut
        have hsl : s.size = CR.length := by rw [← nums_len, hns]
        by_cases hbig : 1048576 < CR.length
        · obtain ⟨rfl, rfl⟩ := unhide HLONG hbig
          have hz : (1048576 : Int) < (s.size : Int) := by omega
          clear hsl hns
          go_wp2
          go_ret2
          exact ⟨_, rfl, hn0, hBc⟩
        · obtain ⟨hcl, rfl⟩ := unhide HOK (by omega)
          have hz : ¬ (1048576 : Int) < (s.size : Int) := by omega
          have HCL := hide hcl; have HNS := hide hns; clear hsl hns hcl
          go_wp2
          go_ret2
          exact ⟨_, rfl, by rw [unhide HCL]; exact unhide HNS, hBc⟩

set_option maxHeartbeats 2000000 in
set_option maxRecDepth 100000 in
theorem law_pieces (s t : ByteArray) (i k : Int) (hs : s.size ≤ 1048576) (ht : t.size ≤ 1048576) (w : World) (hT : Lib.Utf8Tabs 0 1 w) :
    Calls Tryd.prog 5 #[.string s, .string t, .int .i64 i, .int .i64 k] w fun e w' => e = .returned (.bool true) ∧ Below w.heap.size w w' := by
  have HT := hide hT; clear hT
  go_enter Tryd.func5, Tryd.ntmps5
  go_wp2_with fail
  refine (at_any s i (by omega) w (unhide HT)).mono ?_
  rintro e w1 ⟨rfl, hb1⟩
  go_wp2_with fail
  refine (refAt_any s i (by omega) w1).mono ?_
  rintro e w2 ⟨rfl, hb2⟩
  have hB2 := hb1.trans (hb2.mono hb1.size)
  go_wp2_with fail
  refine (slice_any s i k (by omega) w2 (tabs_below (unhide HT) hB2)).mono ?_
  rintro e w3 ⟨a, rfl, ha, hb3⟩
  have hB3 := hB2.trans (hb3.mono hB2.size)
  have HA := hide ha; clear ha
  go_wp2_with fail
  refine (refSlice_any s i k (by omega) w3).mono ?_
  rintro e w4 ⟨b, rfl, hb, hb4⟩
  have hB4 := hB3.trans (hb4.mono hB3.size)
  have hab : b = a := nums_inj (hb.trans (unhide HA).symm)
  subst hab
  clear hb HA
  go_wp2_with fail
  refine (concat_any s t (by omega) (by omega) w4 (tabs_below (unhide HT) hB4)).mono ?_
  rintro e w5 ⟨c, rfl, hc, hb5⟩
  have hB5 := hB4.trans (hb5.mono hB4.size)
  have HC := hide hc; clear hc
  go_wp2_with fail
  refine (refConcat_any s t (by omega) (by omega) w5).mono ?_
  rintro e w6 ⟨d, rfl, hd, hb6⟩
  have hB6 := hB5.trans (hb6.mono hB5.size)
  have hcd : d = c := nums_inj (hd.trans (unhide HC).symm)
  subst hcd
  clear hd HC
  go_wp2
  go_ret
  refine ⟨?_, hB6⟩
  simp
end Go.Proofs.YtnlbapheggnlpaaDoor
