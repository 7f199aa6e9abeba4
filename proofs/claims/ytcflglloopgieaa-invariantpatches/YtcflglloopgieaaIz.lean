import Derived.Test.YtcflglloopgieaaIt
namespace Go.Proofs.Ytcflglloopgieaa
open Go Go.Proofs Go.Maps Go.RowKit FM
set_option linter.unusedSimpArgs false
set_option linter.unusedVariables false
set_option maxHeartbeats 1000000
theorem own_cap {w : World} {base e sz n : Nat} {A : Option Addr} {c : Nat} {xs : List Value} (h : w.ownsRow base e sz (.slice A n c) n xs) : n ≤ c := by
  rcases h.2 with ⟨h1, h2⟩ | ⟨g, cap, cur, h1, _, _, h2, _⟩
  · rw [h2]; exact Nat.zero_le _
  · cases h1
    exact h2
def CopyPost (w : World) (l : List SH) (e : Ending) (X : World) : Prop := ∃ (A : Option Addr) (c : Nat) (cl : List CE), e = .returned (.slice A l.length c) ∧ CRow w X l (.slice A l.length c) cl ∧ cl.length = l.length ∧ ∀ e ∈ cl, e.s.ps.length ≤ e.cap
theorem copy_readsS {w X : World} {l : List SH} {A : Option Addr} {c : Nat} {cl : List CE} (h : CRow w X l (.slice A l.length c) cl) (hl : cl.length = l.length) (hx : ∀ (j : Nat) (s : SH), l[j]? = some s → s.p.x < 2 ^ 64 ∧ s.ps.length ≤ 733007751850) : ReadsS X A l := fun j s hs => by
  have hj : j < cl.length := by
    rw [hl]
    exact (List.getElem?_eq_some_iff.1 hs).1
  have he : cl[j]? = some cl[j] := List.getElem?_eq_getElem hj
  obtain ⟨h1, h2⟩ := h.all j _ he
  have e1 : cl[j].s = s := Option.some.inj (h1.symm.trans hs)
  obtain ⟨g, c2, h3, h4, h5, h6⟩ := own_row ce_length h.own rfl j hj
  obtain ⟨hA, _⟩ : A = some ⟨g, 0, none⟩ ∧ _ := by simpa using h3
  have h7 : X.rangeAt g (0 + j * 8) (s.cs cl[j].A cl[j].cap) := e1 ▸ h6
  obtain ⟨x2, x3⟩ := hx j s hs
  exact ⟨x2, x3, g, 0, cl[j].A, cl[j].cap, hA, h5, e1 ▸ h2, h7⟩
set_option maxHeartbeats 4000000 in
set_option maxRecDepth 100000 in
theorem copy_any (A : Option Addr) (cap : Nat) (l : List SH) (w : World) (hR : ReadsT w A l) (hn : l.length ≤ 1000) : Calls Try.prog 5 #[.slice A l.length cap] w (CopyPost w l) := by
  have HR := hide hR
  have HN := hide hn
  clear hR hn
  go_enter Try.func5, Try.ntmps5
  go_wp2_with (first | go_skip | ((with_reducible show wpList _ _ _ _ _ _); first | ((refine rd (by rfl) (ex_lenG 22 48 Try.underlying22 rfl rfl) ?_); simp only [Act.put, List.setIfInBounds_toArray, List.set_cons_succ, List.set_cons_zero])))
  go_loopg [3, 4] l.length (fun gm s3 s4 wr => ∃ (i : Nat) (cl : List CE), s4 = .int .i64 (i : Nat) ∧ i ≤ l.length ∧ l.length - i ≤ gm ∧ cl.length = i ∧ Hid (∀ e ∈ cl, e.s.ps.length ≤ e.cap) ∧ Hid (CRow w wr l s3 cl))
  case atStart => exact ⟨0, [], rfl, by omega, by omega, rfl, hide (by simp), hide (CRow.nil w l)⟩
  case round =>
    obtain ⟨i, cl, rfl, hil, hgm, hcl, HCC, HC⟩ := hrel
    by_cases hlt : i < l.length
    · have dlt : decide ((i : Int) < (l.length : Int)) = true := decide_eq_true (by omega)
      have hw1 : IntKind.i64.wrap ((i : Int) + 1) = (i : Int) + 1 := by have := unhide HN; rw [IntKind.wrap_i64]; omega
      obtain ⟨s, hs⟩ : ∃ s, l[i]? = some s := ⟨_, List.getElem?_eq_getElem hlt⟩
      obtain ⟨hx64, hz, b, off, SA, sc, hA, hb, hps, hrg, hc0⟩ := (unhide HR) i s hs
      have HA1 := hide hA
      have HA2 : Hid (∀ X, Fr w X [] → X.rangeAt b (off + i * 8) (s.cs SA sc)) := hide (fun X hX => rangeAt_fr hrg hb hX)
      have HPS := hide hps
      have HZ := hide hz
      have HC0 := hide hc0
      have HLT := hide hlt
      have HS : Hid (l[cl.length]? = some s) := hide (by rw [hcl]; exact hs)
      have HOKP : Hid (∀ p ∈ s.ps, OkP p) := hide (fun p hp => by
        obtain ⟨j, hj⟩ := List.getElem?_of_mem hp
        exact (hps j p hj).1)
      have HF := hide (unhide HC).fr
      have LL := hide (Hq.nil wr [])
      clear hA hb hrg hps hz hc0 hx64 hs hlt hil
      go_wp2_with (first | go_skip | ((with_reducible show wpList _ _ _ _ _ _); first | ((refine rd (by rfl) (ex_lenG 22 48 Try.underlying22 rfl rfl) ?_); simp only [Act.put, List.setIfInBounds_toArray, List.set_cons_succ, List.set_cons_zero]) | ((refine rd (by rfl) (ex_indexA 22 8 i unSs idSs rfl rfl (unhide HA1) rfl (unhide HLT)) ?_); simp only [Act.put, List.setIfInBounds_toArray, List.set_cons_succ, List.set_cons_zero]) | ((refine rd (by rfl) (ex_loadR (vs := s.cs SA sc) 48 8 rwS szS rfl rfl (unhide HA2 _ ((unhide HF).trans (unhide LL).fr (by simp))) rfl) ?_); simp only [Act.put, List.setIfInBounds_toArray, List.set_cons_succ, List.set_cons_zero]) | ((refine alG 48 (zeroS.cs none 0) (by rfl) rfl (fun w => by kernel_rfl) (Nat.succ_pos _) (unhide LL) ?_); intro X5 B5 hE5 L5 hb5; have hB5 := hide (Nat.le_trans (unhide LL).fr.size (Nat.le_of_eq hE5.symm)); replace LL := hide L5; clear L5 hb5 hE5; simp only [Act.put, List.setIfInBounds_toArray, List.set_cons_succ, List.set_cons_zero]) | ((refine st (vs := s.cs SA sc) 0 48 (by rfl) rfl rfl rfl rfl (shcs_one s SA sc) (szS) (unhide LL) rfl (by simp [cput, PR.cs, SH.cs, VV.cs, KK.cs, DD.cs, CO.cs, DL.cs, zeroP, zeroS, zeroD, zeroV]) (Or.inr (unhide hB5)) ?_); intro X6 L6 hf6 hs6; replace LL := hide L6; clear L6 hf6 hs6; simp only [Act.put, List.setIfInBounds_toArray, List.set_cons_succ, List.set_cons_zero]) | ((refine noneG 46 56 20 wr.heap.size (unhide LL).fr.size (by rfl) rfl none26 ?_); intro X7 B7 hE7 hO7 hb7; have HO : Hid (X7.ownsRow wr.heap.size 56 20 (.slice (some ⟨B7, 0, none⟩) 0 0) 0 [] ∧ B5 ≠ B7 ∧ wr.heap.size ≤ B7) := hide ⟨hO7, Nat.ne_of_lt (Nat.lt_of_lt_of_le ((unhide LL).lt _ (List.mem_singleton.2 rfl)) (Nat.le_of_eq hE7.symm)), Nat.le_trans (unhide LL).fr.size (Nat.le_of_eq hE7.symm)⟩; replace LL := hide ((unhide LL).on hb7); clear hE7 hO7 hb7; simp only [Act.put, List.setIfInBounds_toArray, List.set_cons_succ, List.set_cons_zero]) | ((refine rd (by rfl) (ex_load1 46 Try.isAgg46 rfl rfl ((unhide LL).get 0 rfl) rfl) ?_); simp only [Act.put, List.setIfInBounds_toArray, List.set_cons_succ, List.set_cons_zero]) | ((refine app_P (l := s.ps) (av := B5) (base := wr.heap.size) (by rfl) rfl rfl rfl (unhide HO).1 ((unhide HPS).fr ((unhide HF).trans (unhide LL).fr (by simp))) (unhide HC0) (unhide HZ) (unhide LL).fr.size (Ne.symm (unhide HO).2.1) ((unhide LL).lt _ (List.mem_singleton.2 rfl)) ?_); intro A8 c8 X8 hO8 hf8 hNB8; have LL8 := (unhide LL).step hf8 (fun b hb => .inr (by obtain rfl : b = B7 := (by simpa using hb); exact (unhide HO).2.2)) (fun q hq => by obtain rfl : q = _ := List.mem_singleton.1 hq; intro hm; exact (unhide HO).2.1 (by simpa using hm)); have HNB : Hid (∀ g, (Value.slice A8 s.ps.length c8).ownBlock = some g → g ∉ [B5]) := hide (fun g hg hm => absurd (hNB8 g hg) (by obtain rfl : g = B5 := (by simpa using hm); exact fun h => h rfl)); replace HO := hide hO8; replace LL := hide LL8; clear LL8 hO8 hf8 hNB8; simp only [Act.put, List.setIfInBounds_toArray, List.set_cons_succ, List.set_cons_zero]) | ((refine st (vs := [.slice A8 s.ps.length c8]) 0 46 (by rfl) rfl rfl rfl rfl (by simp [Value.oneCell']) szPs (unhide LL) rfl (by simp [cput, SH.cs, VV.cs, zeroS]) (Or.inr (unhide hB5)) ?_); intro X9 L9 hf9 hs9; have HO9 : Hid (X9.ownsRow wr.heap.size 56 20 (.slice A8 s.ps.length c8) s.ps.length (flatP s.ps) ∧ True) := hide ⟨own_blk (unhide HO) (fun g hg => hf9.block g (World.ownsRow.lt (unhide HO) g hg).2 (unhide HNB g hg)), trivial⟩; replace LL := hide L9; clear L9 hf9 hs9 HO; simp only [Act.put, List.setIfInBounds_toArray, List.set_cons_succ, List.set_cons_zero]) | ((refine rd (by rfl) (ex_loadN (vs := s.cs A8 c8) 48 8 rwS szS rfl rfl ((unhide LL).get 0 rfl) rfl rfl) ?_); simp only [Act.put, List.setIfInBounds_toArray, List.set_cons_succ, List.set_cons_zero]) | ((refine build_any (z := zeroS.agg none 0) (size := 8) (bytes := 88) (cs := s.cs A8 c8) (by rfl) rfl rfl Try.underlying22 inf28 (by omega) rfl rfl (by omega) (unhide LL) ?_); intro X10 B10 hE10 L10 hb10; replace HO9 := hide (And.intro (own_fr (unhide HO9).1 (Fr.of_below hb10 [])) trivial); replace LL := hide L10; clear L10 hb10 hE10; simp only [Act.put, List.setIfInBounds_toArray, List.set_cons_succ, List.set_cons_zero]) | ((with_reducible refine append_any (z := zeroS.agg none 0) (size := 8) (bytes := 88) (n := cl.length) (m := 1) (base := w.heap.size) (news := s.cs A8 c8) (by rfl) rfl rfl rfl Try.underlying22 inf28 rfl (by omega) (own_fr (unhide HC).own (unhide LL).fr) ((unhide LL).get 1 rfl) rfl (shcs_one s A8 c8) (by have := unhide HN; have := unhide HLT; omega) (by omega) (Nat.le_trans (unhide HF).size (unhide LL).fr.size) ?_); intro A11 c11 X11 hO11 hg11 hF11; have HCP := hide (own_cap (unhide HO9).1); have HNEW : Hid (CRow w X11 l (.slice A11 (cl.length + 1) c11) (cl ++ [⟨s, A8, c8⟩])) := hide (CRow.snoc ((unhide HC).on (unhide LL).fr) hO11 hg11 hF11 (unhide HS) (own_readsP (unhide HOKP) (unhide HO9).1) (fun b o hb => by subst hb; have h1 := World.ownsRow.lt (unhide HO9).1 b rfl; refine ⟨h1.2, fun h2 => ?_⟩; have h3 := World.ownsRow.lt (unhide HC).own b h2; omega)); clear hO11 hg11 hF11 HO9 LL; simp only [Act.put, List.setIfInBounds_toArray, List.set_cons_succ, List.set_cons_zero])))
      go_roundg (l.length - (i + 1))
      case measure => have := unhide HLT; omega
      case rel => exact ⟨i + 1, cl ++ [⟨s, A8, c8⟩], by go_num, by have := unhide HLT; omega, by omega, by rw [List.length_append, hcl]; rfl, hide (fun e he => by rcases List.mem_append.1 he with h | h; exact (unhide HCC) e h; obtain rfl : e = ⟨s, A8, c8⟩ := (by simpa using h); exact unhide HCP), HNEW⟩
    · obtain rfl : i = l.length := by omega
      obtain ⟨Ac, cc, hf⟩ := own_form (unhide HC).own
      rw [hcl] at hf
      subst hf
      clear hlt hil
      go_wp2_with (first | go_skip | ((with_reducible show wpList _ _ _ _ _ _); first | ((refine rd (by rfl) (ex_lenG 22 48 Try.underlying22 rfl rfl) ?_); simp only [Act.put, List.setIfInBounds_toArray, List.set_cons_succ, List.set_cons_zero])))
      go_ret
      exact ⟨Ac, cc, cl, rfl, unhide HC, hcl, unhide HCC⟩
end Go.Proofs.Ytcflglloopgieaa
