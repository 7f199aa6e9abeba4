import Derived.Test.YtakenhaieblikaaDoorWs
namespace Go.Proofs.YtakenhaieblikaaDoor
open Go.RowKit Go.Shelf

set_option maxHeartbeats 1000000 in
set_option maxRecDepth 100000 in
theorem find_any (vl vt : Value) (l t : List Nat) (hl : l.length ≤ 1099511627776) (htl : t.length ≤ 1099511627776) (w : World) (hL : Reads w vl l) (hT : Reads w vt t) :
    Calls Tryd.prog 58 #[vl, vt] w fun e w' => ∃ r : Int, e = .returned (.int .i64 r) ∧ M.FirstAt l t 0 r ∧ Below w.heap.size w w' := by
  obtain ⟨A, ca, rfl, hA⟩ := reads_open hL
  obtain ⟨B, cb, rfl, hB⟩ := reads_open hT
  clear hB
  have HA := hide hA; clear hA hL
  by_cases h0 : t.length = 0
  · have h0' : ((t.length : Int) == 0) = true := by rw [beq_iff_eq]; omega
    have ht : t = [] := List.length_eq_zero_iff.1 h0
    have HT := hide ht; clear ht h0
    go_enter Tryd.func58, Tryd.ntmps58
    go_wp2
    go_ret
    exact ⟨0, rfl, by rw [unhide HT]; exact M.first_empty l 0 (Nat.zero_le _), Below.refl _ _⟩
  · have h0' : ((t.length : Int) == 0) = false := by rw [beq_eq_false_iff_ne]; omega
    have hb := borders_any _ t (by omega) htl w hT
    have HB := hide hb; have HTT := hide hT; clear hb hT
    go_enter Tryd.func58, Tryd.ntmps58
    go_wp2_with fail
    refine (unhide HB).mono ?_
    rintro e w1 ⟨ve, E, rfl, hri, hEl, hE, hb1⟩
    have HRI := hide hri; have HE := hide hE; clear hri hE
    have HEL := hide hEl; clear hEl
    go_wp2
    go_loopw [6, 16] (fun kv iv wr => ∃ (i k n : Nat), kv = .int .i64 (k : Nat) ∧ iv = .int .i64 (i : Nat) ∧ i ≤ l.length ∧ M.Seek l t i k ∧ wr = w1.drewN n) (fun _ iv _ => l.length - (intOf iv).toNat)
    case atStart => exact ⟨0, 0, 0, rfl, rfl, by omega, M.seek_zero l t (by omega), rfl⟩
    case round =>
      obtain ⟨i, k, n, rfl, rfl, hi, hsk, rfl⟩ := hrel
      have HSK := hide hsk; clear hsk
      by_cases hlt : i < l.length
      · have hlt' : (i : Int) < (l.length : Int) := by omega
        obtain ⟨b, off, rfl, hblt, hcell⟩ := unhide HA i hlt
        have hc1 : w1.cell? ⟨b, off + i, none⟩ = some (.int .u16 (l.getD i 0 : Nat)) := (hb1.cell (p := ⟨b, off + i, none⟩) hblt).trans hcell
        have hget := getD_some hlt
        have hkt := (unhide HSK).1.1
        have hext := extend_any _ ve t E (l.take i) t.length k (l.getD i 0) htl (w1.drewN n) (((unhide HTT).same hb1).same (below_drewN' _ _ _)) ((unhide HRI).same (below_drewN' _ _ _)) (by rw [unhide HEL]; exact Nat.le_refl _) (unhide HE) (by omega) (unhide HSK).1
        have HEXT := hide hext; have HG := hide hget; have HCE := hide hcell; clear hext hget hcell
        generalize l.getD i 0 = u at *
        go_wp2_with fail
        refine (unhide HEXT).mono ?_
        rintro e w' ⟨r, rfl, g1, g2, m, rfl⟩
        have HG1 := hide g1; have HG2 := hide g2
        have hrl := g1.1
        clear g1 g2
        by_cases hr : r = t.length
        · have hr' : ((r : Int) == (t.length : Int)) = true := by rw [beq_iff_eq]; omega
          have HR := hide hr; clear hr
          go_wp2
          go_ret
          have hr := unhide HR
          subst hr
          obtain ⟨e1, e2⟩ := M.seek_hit (unhide HSK) (unhide HG) (unhide HG1)
          refine ⟨_, rfl, e2, hb1.trans (below_drewN' _ _ _)⟩
        · have hr' : ((r : Int) == (t.length : Int)) = false := by rw [beq_eq_false_iff_ne]; omega
          have HR := hide hr; clear hr
          go_wp2
          go_roundw
          case rel => exact ⟨i + 1, r, n + m, rfl, by go_num, by omega, M.seek_step (unhide HSK) (unhide HG) (unhide HG1) (unhide HG2) (unhide HR), by simp⟩
          case measure => simp [intOf]; omega
      · have hlt' : ¬ (i : Int) < (l.length : Int) := by omega
        have hil : i = l.length := by omega
        have HIL := hide hil; clear hil
        go_wp2
        go_ret
        have hil := unhide HIL
        subst hil
        exact ⟨-1, rfl, M.seek_none (unhide HSK), hb1.trans (below_drewN' _ _ _)⟩

def fromN (f : Int) : Nat := f.toNat
def IdxP (s t : ByteArray) (f r : Int) : Prop := (okC' s t = true → M.FirstAt (unS s) (unS t) f.toNat r) ∧ (okC' s t = false → r = 0)
theorem idx_unique {s t : ByteArray} {f r q : Int} (h : IdxP s t f r) (g : IdxP s t f q) : r = q := by
  cases hv : okC' s t with
  | true => exact M.first_unique (h.1 hv) (g.1 hv)
  | false => rw [h.2 hv, g.2 hv]

set_option maxHeartbeats 2000000 in
set_option maxRecDepth 100000 in
theorem index_any (a b : ByteArray) (f : Int) (hsa : a.size ≤ 1099511627776) (hsb : b.size ≤ 1099511627776) (w : World) (hT : Lib.Utf8Tabs 0 1 w) :
    Calls Tryd.prog 32 #[.string a, .string b, .int .i64 f] w fun e w' => ∃ r : Int, e = .returned (.tuple #[.int .i64 r, .int .i64 (cmE a b)]) ∧ IdxP a b f r ∧ Below w.heap.size w w' := by
  have hva := valid_any a w hT
  have hvb : ∀ w', Below w.heap.size w w' → Calls Tryd.prog 15 #[.string b] w' fun e w'' => e = .returned (.bool (M.valid false (nums b))) ∧ Below w'.heap.size w' w'' := fun w' h => valid_any b w' (tabs_below hT h)
  have hua : vS a = true → ∀ w', Below w.heap.size w w' → Calls Tryd.prog 52 #[.string a] w' fun e W' => ∃ v, e = .returned v ∧ W'.ownsRow w'.heap.size 38 1 v (unS a).length ((unS a).map u16v) ∧ Below w'.heap.size w' W' := fun h w' hb => unitsOf_s a h hsa w' (tabs_below hT hb)
  have hub : vS b = true → ∀ w', Below w.heap.size w w' → Calls Tryd.prog 52 #[.string b] w' fun e W' => ∃ v, e = .returned v ∧ W'.ownsRow w'.heap.size 38 1 v (unS b).length ((unS b).map u16v) ∧ Below w'.heap.size w' W' := fun h w' hb => unitsOf_s b h hsb w' (tabs_below hT hb)
  have hla := unS_len a; have hlb := unS_len b
  have hok : vS a = true → vS b = true → (∀ r, M.FirstAt (unS a) (unS b) f.toNat r → IdxP a b f r) ∧ cmE a b = 0 := fun h h' => by
    refine ⟨fun r hr => ⟨fun _ => hr, fun hq => ?_⟩, ?_⟩
    · unfold okC' at hq; rw [h, h'] at hq; cases hq
    · unfold cmE okC'; rw [h, h']; rfl
  have hbad : (vS a && vS b) = false → IdxP a b f 0 ∧ cmE a b = 10 := fun h => by
    refine ⟨⟨fun hq => ?_, fun _ => rfl⟩, ?_⟩
    · unfold okC' at hq; rw [h] at hq; cases hq
    · unfold cmE okC'; rw [h]; rfl
  generalize IdxP a b f = IP at *
  generalize cmE a b = CE at *
  unfold vS at *
  generalize M.valid false (nums a) = va at *
  generalize M.valid false (nums b) = vb at *
  generalize unS a = la at *
  generalize unS b = lb at *
  have HVA := hide hva; have HVB := hide hvb; clear hva hvb
  cases va with
  | false =>
    obtain ⟨hi0, rfl⟩ := hbad rfl
    clear hua hub hok hbad
    go_enter Tryd.func32, Tryd.ntmps32
    go_wp2_with fail
    refine (unhide HVA).mono ?_
    rintro e w1 ⟨rfl, hb1⟩
    go_wp2
    go_ret2
    exact ⟨0, rfl, hi0, hb1⟩
  | true =>
    have HUA := hide (hua rfl)
    cases vb with
    | false =>
      obtain ⟨hi0, rfl⟩ := hbad rfl
      clear hua hub hok hbad
      go_enter Tryd.func32, Tryd.ntmps32
      go_wp2_with fail
      refine (unhide HVA).mono ?_
      rintro e w1 ⟨rfl, hb1⟩
      go_wp2_with fail
      refine (unhide HVB w1 hb1).mono ?_
      rintro e w2 ⟨rfl, hb2⟩
      go_wp2
      go_ret2
      exact ⟨0, rfl, hi0, hb1.trans (hb2.mono hb1.size)⟩
    | true =>
      have HUB := hide (hub rfl)
      obtain ⟨hip, rfl⟩ := hok rfl rfl
      clear hua hub hok hbad
      obtain ⟨f', hf', hfm⟩ : ∃ f' : Nat, f.toNat = f' ∧ max f 0 = (f' : Int) := ⟨f.toNat, rfl, by omega⟩
      rw [hf'] at hip
      have HIP := hide hip; clear hip
      have HF := hide hf'; clear hf'
      go_enter Tryd.func32, Tryd.ntmps32
      go_wp2_with fail
      refine (unhide HVA).mono ?_
      rintro e w1 ⟨rfl, hb1⟩
      go_wp2_with fail
      refine (unhide HVB w1 hb1).mono ?_
      rintro e w2 ⟨rfl, hb2⟩
      have hB2 := hb1.trans (hb2.mono hb1.size)
      go_wp2_with fail
      refine (unhide HUA w2 hB2).mono ?_
      rintro e w3 ⟨v1, rfl, ho1, hb3⟩
      have hB3 := hB2.trans (hb3.mono hB2.size)
      obtain ⟨A, c, hva, hcap, hA⟩ : ∃ A c, v1 = .slice A la.length c ∧ la.length ≤ c ∧ (A = none ∧ c = 0 ∨ ∃ g, A = some ⟨g, 0, none⟩) := by
        rcases ho1.2 with ⟨h1, h2⟩ | ⟨g, c, cur, h1, h2, h3, h4, _⟩
        · exact ⟨none, 0, by rw [h2, h1], by omega, .inl ⟨rfl, rfl⟩⟩
        · exact ⟨_, _, h1, h4, .inr ⟨g, rfl⟩⟩
      subst hva
      by_cases hfl : la.length < f'
      · have hfl' : (la.length : Int) < (f' : Int) := by omega
        go_wp2
        go_ret2
        refine ⟨-1, rfl, unhide HIP _ (.inl ⟨rfl, fun k hk hat => ?_⟩), hB3⟩
        have := hat.1
        omega
      · have hfl' : ¬ (la.length : Int) < (f' : Int) := by omega
        have hfl2 : (f' : Int) ≤ (c : Int) := by omega
        have hf0 : (0 : Int) ≤ (f' : Int) := by omega
        have hfl3 : (f' : Int) ≤ (la.length : Int) := by omega
        obtain ⟨A', hn, hs, hrd⟩ := reads_cut (reads_own ho1) (i := f') (k := la.length) (by omega) (Nat.le_refl _) hcap
        have hdt : (la.drop f').take (la.length - f') = la.drop f' := List.take_of_length_le (by rw [List.length_drop]; exact Nat.le_refl _)
        rw [hdt] at hrd
        clear hdt
        have hdl : (la.drop f').length ≤ 1099511627776 := by rw [List.length_drop]; omega
        have HRD := hide hrd; clear hrd
        have hem : c - f' = 0 → la.length - f' = 0 ∧ la.drop f' = [] := fun h => by
          have : la.length - f' = 0 := by omega
          exact ⟨this, List.drop_of_length_le (by omega)⟩
        rcases hA with ⟨rfl, rfl⟩ | ⟨g, rfl⟩
        · obtain ⟨z1, z2⟩ := hem (by omega)
          have HZ1 := hide z1; have HZ2 := hide z2; clear z1 z2 hem
          go_wp2
          go_region_held3 (fun _ => True) (trivial)
            ((first
              | (go_at_call 52; refine (unhide HUB _ (hB3.trans (below_drewN' _ _ 1))).mono ?_; rintro e w4 ⟨v2, rfl, ho2, hb4⟩)
              | (go_at_call 58; refine (find_any _ _ (la.drop f') lb hdl (by omega) w4 (.inl ⟨none, _, by first | rfl | rw [unhide HZ1], unhide HZ2⟩) (reads_own ho2)).mono ?_; rintro e w5 ⟨n5, rfl, hn5, hb5⟩)))
          have hB5 : Below w.heap.size w w5 := (hB3.trans (below_drewN' _ _ 1)).trans ((hb4.mono (by have := hB3.size; exact this)).trans (hb5.mono (by have := hB3.size; have := hb4.size; exact Nat.le_trans (by assumption) (by assumption))))
          have hfin := unhide HIP _ (M.first_drop (by omega) hn5)
          have hn5b : n5 = -1 ∨ (0 ≤ n5 ∧ n5 ≤ 1099511627776) := by
            rcases hn5 with ⟨rfl, _⟩ | ⟨k, rfl, _, hat, _⟩
            · exact .inl rfl
            · have := hat.1; right; omega
          have HFIN := hide hfin; clear hfin hn5
          by_cases hneg : n5 < 0
          · rw [if_pos hneg] at HFIN
            go_wp2
            go_ret2
            exact ⟨-1, rfl, unhide HFIN, hB5⟩
          · rw [if_neg hneg] at HFIN
            go_wp2
            go_ret2
            exact ⟨_, rfl, unhide HFIN, hB5⟩
        · by_cases hce : c - f' = 0
          · obtain ⟨z1, z2⟩ := hem hce
            have HZ1 := hide z1; have HZ2 := hide z2; clear z2 hem
            go_wp2
            go_region_held3 (fun _ => True) (trivial)
              ((first
                | (go_at_call 52; refine (unhide HUB _ (hB3.trans (below_drewN' _ _ 1))).mono ?_; rintro e w4 ⟨v2, rfl, ho2, hb4⟩)
                | (go_at_call 58; refine (find_any _ _ (la.drop f') lb hdl (by omega) w4 (.inl ⟨_, _, by first | rfl | rw [unhide HZ1], unhide HZ2⟩) (reads_own ho2)).mono ?_; rintro e w5 ⟨n5, rfl, hn5, hb5⟩)))
            have hB5 : Below w.heap.size w w5 := (hB3.trans (below_drewN' _ _ 1)).trans ((hb4.mono (by have := hB3.size; exact this)).trans (hb5.mono (by have := hB3.size; have := hb4.size; exact Nat.le_trans (by assumption) (by assumption))))
            have hfin := unhide HIP _ (M.first_drop (by omega) hn5)
            have hn5b : n5 = -1 ∨ (0 ≤ n5 ∧ n5 ≤ 1099511627776) := by
              rcases hn5 with ⟨rfl, _⟩ | ⟨k, rfl, _, hat, _⟩
              · exact .inl rfl
              · have := hat.1; right; omega
            have HFIN := hide hfin; clear hfin hn5
            by_cases hneg : n5 < 0
            · rw [if_pos hneg] at HFIN
              go_wp2
              go_ret2
              exact ⟨-1, rfl, unhide HFIN, hB5⟩
            · rw [if_neg hneg] at HFIN
              go_wp2
              go_ret2
              exact ⟨_, rfl, unhide HFIN, hB5⟩
          · have e1 := hs g 0 rfl
            rw [Nat.zero_add] at e1
            subst e1
            clear hem
            go_wp2
            go_region_held3 (fun _ => True) (trivial)
              ((first
                | (go_at_call 52; refine (unhide HUB _ (hB3.trans (below_drewN' _ _ 1))).mono ?_; rintro e w4 ⟨v2, rfl, ho2, hb4⟩)
                | (go_at_call 58; refine (find_any _ _ (la.drop f') lb hdl (by omega) w4 (((unhide HRD).same (below_drewN' _ _ 1)).same hb4) (reads_own ho2)).mono ?_; rintro e w5 ⟨n5, rfl, hn5, hb5⟩)))
            have hB5 : Below w.heap.size w w5 := (hB3.trans (below_drewN' _ _ 1)).trans ((hb4.mono (by have := hB3.size; exact this)).trans (hb5.mono (by have := hB3.size; have := hb4.size; exact Nat.le_trans (by assumption) (by assumption))))
            have hfin := unhide HIP _ (M.first_drop (by omega) hn5)
            have hn5b : n5 = -1 ∨ (0 ≤ n5 ∧ n5 ≤ 1099511627776) := by
              rcases hn5 with ⟨rfl, _⟩ | ⟨k, rfl, _, hat, _⟩
              · exact .inl rfl
              · have := hat.1; right; omega
            have HFIN := hide hfin; clear hfin hn5
            by_cases hneg : n5 < 0
            · rw [if_pos hneg] at HFIN
              go_wp2
              go_ret2
              exact ⟨-1, rfl, unhide HFIN, hB5⟩
            · rw [if_neg hneg] at HFIN
              go_wp2
              go_ret2
              exact ⟨_, rfl, unhide HFIN, hB5⟩
end Go.Proofs.YtakenhaieblikaaDoor
