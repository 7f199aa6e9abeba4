import Derived.Test.YtnlbapheggnlpabDoorWx
import Derived.LoopTactic
namespace Go.Proofs.YtnlbapheggnlpabDoor
open Go.RowKit Go.Shelf

theorem valid_v (s : ByteArray) (b : Bool) (h : vS s = b) (w : World) (hT : Lib.Utf8Tabs 0 1 w) : Calls Tryd.prog 7 #[.string s] w fun e w' => e = .returned (.bool b) ∧ Below w.heap.size w w' := by
  have := valid_any s w hT
  unfold vS at h; rw [h] at this; exact this
theorem len_v (s : ByteArray) (n : Nat) (er : Int) (hn : (unS s).length = n) (he : erS s = er) (hsz : s.size ≤ 1048576) (w : World) (hT : Lib.Utf8Tabs 0 1 w) :
    Calls Tryd.prog 6 #[.string s] w fun e w' => e = .returned (.tuple #[.int .i64 (n : Nat), .int .i64 er]) ∧ Below w.heap.size w w' := by
  subst hn he; exact len_any s (by omega) w hT

theorem ofL_len (l : List Nat) (hl : ∀ x ∈ l, x < 65536) : (M.ofL l).length ≤ 4 * l.length := by
  obtain ⟨_, p2, _⟩ := M.row_props l.length l (Nat.le_refl _) hl
  have h1 : ∀ cs : List Nat, (cs.flatMap M.E).length ≤ 4 * cs.length := by
    intro cs
    induction cs with
    | nil => simp
    | cons c r ih => have := (M.E_len c).2; simp only [List.flatMap_cons, List.length_append, List.length_cons]; omega
  have h2 : ∀ cs : List Nat, cs.length ≤ (cs.flatMap M.U).length := by
    intro cs
    induction cs with
    | nil => simp
    | cons c r ih =>
      have : 1 ≤ (M.U c).length := by unfold M.U; split <;> simp
      simp only [List.flatMap_cons, List.length_append, List.length_cons]; omega
  have := h1 (M.row l); have := h2 (M.row l)
  rw [p2] at this
  unfold M.ofL; omega
theorem cut_v (s : ByteArray) (i k : Nat) (hv : vS s = true) (hik : i ≤ k) (hk : k ≤ (unS s).length) (hsz : s.size ≤ 1048576) (w : World) (hT : Lib.Utf8Tabs 0 1 w) :
    Calls Tryd.prog 8 #[.string s, .int .i64 (i : Nat), .int .i64 (k : Nat)] w fun e w' => ∃ a, e = .returned (.tuple #[.string a, .int .i64 0]) ∧ (vS a = true ∧ unS a = ((unS s).drop i).take (k - i) ∧ a.size ≤ 4194304) ∧ Below w.heap.size w w' := by
  refine (slice_any s i k (by omega) w hT).mono ?_
  rintro e w' ⟨t, rfl, ht, hb⟩
  have hbad : badB s i k = false := by
    unfold badB
    simp only [Bool.or_eq_false_iff, decide_eq_false_iff_not]
    omega
  have h1 : slE s i k = 0 := by unfold slE; rw [hv, hbad]; rfl
  have h2 : slL s i k = M.ofL (((unS s).drop i).take (k - i)) := by unfold slL; rw [hv, hbad]; simp
  rw [h2] at ht
  have hsm : ∀ x ∈ ((unS s).drop i).take (k - i), x < 65536 := fun x hx => unS_small s x (List.mem_of_mem_drop (List.mem_of_mem_take hx))
  obtain ⟨q1, q2⟩ := of_un hsm ht
  have hl := ofL_len _ hsm
  have hul := unS_len s
  refine ⟨t, by rw [h1], ⟨q1, q2, ?_⟩, hb⟩
  rw [← nums_len, ht]
  have : (((unS s).drop i).take (k - i)).length ≤ (unS s).length := by simp only [List.length_take, List.length_drop]; omega
  omega
theorem cat_v (s a b : ByteArray) (hv : vS s = true) (ha : vS a = true) (hb : vS b = true) (hu : unS a ++ unS b = unS s) (hsa : a.size ≤ 4194304) (hsb : b.size ≤ 4194304) (hsz : s.size ≤ 1048576) (w : World) (hT : Lib.Utf8Tabs 0 1 w) :
    Calls Tryd.prog 9 #[.string a, .string b] w fun e w' => e = .returned (.tuple #[.string s, .int .i64 0]) ∧ Below w.heap.size w w' := by
  refine (concat_any a b (by omega) (by omega) w hT).mono ?_
  rintro e w' ⟨t, rfl, ht, hbl⟩
  have hok : okC a b = true := by unfold okC; rw [ha, hb]; rfl
  have hR : catR a b = nums s := by unfold catR; rw [hu, ← un_ok hv]
  obtain ⟨q1, q2⟩ := cat_ok hok (by rw [hR, nums_len]; exact hsz)
  rw [q1, hR] at ht
  obtain rfl := nums_inj ht
  exact ⟨by rw [q2], hbl⟩
theorem at_v (s : ByteArray) (q : Nat) (hv : vS s = true) (hq : q < (unS s).length) (hsz : s.size ≤ 1048576) (w : World) (hT : Lib.Utf8Tabs 0 1 w) :
    Calls Tryd.prog 11 #[.string s, .int .i64 (q : Nat)] w fun e w' => e = .returned (.tuple #[.int .u16 ((unS s).getD q 0 : Nat), .int .i64 0]) ∧ Below w.heap.size w w' := by
  refine (at_any s q (by omega) w hT).mono ?_
  rintro e w' ⟨rfl, hb⟩
  have hin : inB s q = true := by unfold inB; simp; omega
  have h1 : atU s q = (unS s).getD q 0 := by unfold atU; rw [hv, hin]; rfl
  have h2 : atE s q = 0 := by unfold atE; rw [hv, hin]; rfl
  rw [h1, h2]
  exact ⟨rfl, hb⟩
theorem index_v (s b : ByteArray) (f : Nat) (hv : vS s = true) (hb : vS b = true) (hf : f ≤ (unS s).length) (hu : unS b = (unS s).drop f) (hsz : s.size ≤ 1048576) (hsb : b.size ≤ 4194304) (w : World) (hT : Lib.Utf8Tabs 0 1 w) :
    Calls Tryd.prog 12 #[.string s, .string b, .int .i64 (f : Nat)] w fun e w' => e = .returned (.tuple #[.int .i64 (f : Nat), .int .i64 0]) ∧ Below w.heap.size w w' := by
  refine (index_any s b f (by omega) (by omega) w hT).mono ?_
  rintro e w' ⟨r, rfl, hr, hbl⟩
  have hok : okC' s b = true := by unfold okC'; rw [hv, hb]; rfl
  have h1 := hr.1 hok
  rw [Int.toNat_natCast] at h1
  have h2 : M.FirstAt (unS s) (unS b) f (f : Int) := by
    refine .inr ⟨f, rfl, Nat.le_refl _, ⟨?_, ?_⟩, fun j h1 h2 => by omega⟩
    · rw [hu, List.length_drop]; omega
    · rw [hu, List.take_of_length_le (by simp)]
  have h3 := M.first_unique h1 h2
  subst h3
  have h4 : cmE s b = 0 := by unfold cmE; rw [hok]; rfl
  rw [h4]
  exact ⟨rfl, hbl⟩

set_option maxHeartbeats 4000000 in
set_option maxRecDepth 100000 in
theorem law_cuts (s : ByteArray) (k : Int) (hs : s.size ≤ 1048576) (w : World) (hT : Lib.Utf8Tabs 0 1 w) :
    Calls Tryd.prog 3 #[.string s, .int .i64 k] w fun e w' => e = .returned (.bool true) ∧ Below w.heap.size w w' := by
  have HT := hide hT; clear hT
  have hs' : (s.size : Int) ≤ 1048576 := by omega
  cases hv : vS s with
  | false =>
    have hu : (unS s).length = 0 := by unfold unS; rw [hv]; rfl
    have he := erS_bad' hv
    have HL := hide (fun w hT => len_v s 0 10 hu he hs w hT)
    have HV := hide (fun w hT => valid_v s false hv w hT)
    clear hu he hv
    go_enter Tryd.func3, Tryd.ntmps3
    go_wp2_with fail
    refine (awake_any w (unhide HT)).mono ?_
    rintro e w0 ⟨rfl, hB0⟩
    go_wp2_with fail
    refine (unhide HL w0 (tabs_below (unhide HT) hB0)).mono ?_
    rintro e w1 ⟨rfl, hb1⟩
    have hB1 := hB0.trans (hb1.mono hB0.size)
    go_wp2_with fail
    refine (unhide HV w1 (tabs_below (unhide HT) hB1)).mono ?_
    rintro e w2 ⟨rfl, hb2⟩
    have hB2 := hB1.trans (hb2.mono hB1.size)
    go_wp2
    go_ret
    exact ⟨rfl, hB2⟩
  | true =>
    have he := erS_ok' hv
    have hul := unS_len s
    generalize hn : (unS s).length = n at *
    have HL := hide (fun w hT => len_v s n 0 hn he hs w hT)
    have HN := hide hn; have HVS := hide hv
    clear he hn hv
    by_cases hbig : 3000 < n
    · have hbig' : (3000 : Int) < (n : Int) := by omega
      go_enter Tryd.func3, Tryd.ntmps3
      go_wp2_with fail
      refine (awake_any w (unhide HT)).mono ?_
      rintro e w0 ⟨rfl, hB0⟩
      go_wp2_with fail
      refine (unhide HL w0 (tabs_below (unhide HT) hB0)).mono ?_
      rintro e w1 ⟨rfl, hb1⟩
      have hB1 := hB0.trans (hb1.mono hB0.size)
      go_wp2
      go_ret
      exact ⟨rfl, hB1⟩
    · have hbig' : ¬ (3000 : Int) < (n : Int) := by omega
      go_enter Tryd.func3, Tryd.ntmps3
      go_wp2_with fail
      refine (awake_any w (unhide HT)).mono ?_
      rintro e w0 ⟨rfl, hB0⟩
      go_wp2_with fail
      refine (unhide HL w0 (tabs_below (unhide HT) hB0)).mono ?_
      rintro e w1 ⟨rfl, hb1⟩
      have hB1 := hB0.trans (hb1.mono hB0.size)
      go_wp2_with fail
      have hmod : ∃ f : Nat, wrap64 ((IntKind.u64.wrap k).tmod ((n : Int) + 1)) = (f : Int) ∧ f ≤ n := by
        have h0 : 0 ≤ IntKind.u64.wrap k := by rw [IntKind.wrap_u64]; omega
        rw [Int.tmod_eq_emod_of_nonneg h0]
        have h1 := Int.emod_nonneg (IntKind.u64.wrap k) (b := (n : Int) + 1) (by omega)
        have h2 := Int.emod_lt_of_pos (IntKind.u64.wrap k) (b := (n : Int) + 1) (by omega)
        generalize IntKind.u64.wrap k % ((n : Int) + 1) = m at *
        exact ⟨m.toNat, by unfold wrap64; omega, by omega⟩
      obtain ⟨f, hf, hfn⟩ := hmod
      rw [hf]
      clear hf
      have hfn' : (f : Int) ≤ (n : Int) := by omega
      have hf0 : (0 : Int) ≤ (f : Int) := by omega
      refine (cut_v s 0 f (unhide HVS) (Nat.zero_le _) (by rw [unhide HN]; exact hfn) hs w1 (tabs_below (unhide HT) hB1)).mono ?_
      rintro e w2 ⟨a, rfl, hva, hb2⟩
      have hB2 := hB1.trans (hb2.mono hB1.size)
      have HA := hide hva; clear hva
      go_wp2_with fail
      refine (cut_v s f n (unhide HVS) hfn (by rw [unhide HN]; exact Nat.le_refl _) hs w2 (tabs_below (unhide HT) hB2)).mono ?_
      rintro e w3 ⟨b, rfl, hvb, hb3⟩
      have hB3 := hB2.trans (hb3.mono hB2.size)
      have HBb := hide hvb; clear hvb
      have hua : unS a = (unS s).take f := by rw [(unhide HA).2.1]; simp
      have hub : unS b = (unS s).drop f := by rw [(unhide HBb).2.1]; exact List.take_of_length_le (by rw [List.length_drop, unhide HN]; omega)
      have hcat : unS a ++ unS b = unS s := by rw [hua, hub, List.take_append_drop]
      have hla : (unS a).length = f := by rw [hua, List.length_take, unhide HN]; omega
      have hlb : (unS b).length = n - f := by rw [hub, List.length_drop, unhide HN]
      have HUB := hide hub; have HLA := hide hla; have HLB := hide hlb; have HCAT := hide hcat
      clear hua hub hcat hla hlb
      go_wp2_with fail
      refine (cat_v s a b (unhide HVS) (unhide HA).1 (unhide HBb).1 (unhide HCAT) (unhide HA).2.2 (unhide HBb).2.2 hs w3 (tabs_below (unhide HT) hB3)).mono ?_
      rintro e w4 ⟨rfl, hb4⟩
      have hB4 := hB3.trans (hb4.mono hB3.size)
      have hLa : ∀ w : World, Lib.Utf8Tabs 0 1 w → Calls Tryd.prog 6 #[.string a] w fun e w' => e = .returned (.tuple #[.int .i64 (f : Nat), .int .i64 0]) ∧ Below w.heap.size w w' := fun w hT => by
        have := len_any a (by have := (unhide HA).2.2; omega) w hT
        rw [unhide HLA, erS_ok' (unhide HA).1] at this
        exact this
      have hLb : ∀ w : World, Lib.Utf8Tabs 0 1 w → Calls Tryd.prog 6 #[.string b] w fun e w' => e = .returned (.tuple #[.int .i64 ((n : Int) - (f : Int)), .int .i64 0]) ∧ Below w.heap.size w w' := fun w hT => by
        have := len_any b (by have := (unhide HBb).2.2; omega) w hT
        rw [unhide HLB, erS_ok' (unhide HBb).1] at this
        rw [Int.ofNat_sub hfn] at this
        exact this
      have HLa := hide hLa; have HLb := hide hLb; clear hLa hLb
      go_wp2_with fail
      refine (unhide HLa w4 (tabs_below (unhide HT) hB4)).mono ?_
      rintro e w5 ⟨rfl, hb5⟩
      have hB5 := hB4.trans (hb5.mono hB4.size)
      go_wp2_with fail
      refine (unhide HLb w5 (tabs_below (unhide HT) hB5)).mono ?_
      rintro e w6 ⟨rfl, hb6⟩
      have hB6 := hB5.trans (hb6.mono hB5.size)
      go_wp2_with fail
      have hU := units_any s (by omega) w6 (tabs_below (unhide HT) hB6)
      rw [unhide HN, erS_ok' (unhide HVS)] at hU
      refine hU.mono ?_
      clear hU
      rintro e w7 ⟨v, rfl, hown, hb7⟩
      have hB7 := hB6.trans (hb7.mono hB6.size)
      have hrd : Reads w7 v (unS s) := reads_own (by rw [unhide HN]; exact hown)
      obtain ⟨A, cap, hveq, _⟩ := reads_open hrd
      rw [unhide HN] at hveq
      subst hveq
      have HRD := hide hrd; clear hrd hown hb1 hb2 hb3 hb4 hb5 hb6 hb7
      go_wp2
      go_loopw [20] (fun i wr => ∃ q : Nat, i = .int .i64 (q : Nat) ∧ q ≤ n ∧ Below w7.heap.size w7 wr) (fun i _ => n - (intOf i).toNat)
      case atStart => exact ⟨0, rfl, Nat.zero_le _, Below.refl _ _⟩
      case round =>
        obtain ⟨q, rfl, hq, hbr⟩ := hrel
        have hBr := hB7.trans (hbr.mono hB7.size)
        by_cases hlt : q < n
        · have hlt' : (q : Int) < (n : Int) := by omega
          have hq0 : (0 : Int) ≤ (q : Int) := by omega
          go_wp2_with fail
          refine (at_v s q (unhide HVS) (by rw [unhide HN]; exact hlt) hs _ (tabs_below (unhide HT) hBr)).mono ?_
          rintro e w8 ⟨rfl, hb8⟩
          have hb8' := hbr.trans (hb8.mono hbr.size)
          have hrd8 := (unhide HRD).same hb8'
          obtain ⟨A2, c2, e2, hcell⟩ := reads_open hrd8
          simp only [Value.slice.injEq] at e2
          obtain ⟨rfl, hn2, rfl⟩ := e2
          clear hn2
          obtain ⟨b2, off, rfl, _, hca⟩ := hcell q (by rw [unhide HN]; exact hlt)
          clear hcell hrd8
          generalize (unS s).getD q 0 = x at *
          go_wp2
          go_roundw
          case rel => exact ⟨q + 1, by go_num, by omega, hb8'⟩
          case measure => simp [intOf]; omega
        · have hlt' : ¬ (q : Int) < (n : Int) := by omega
          go_wp2_with fail
          refine (index_v s b f (unhide HVS) (unhide HBb).1 (by rw [unhide HN]; exact hfn) (unhide HUB) hs (unhide HBb).2.2 _ (tabs_below (unhide HT) hBr)).mono ?_
          rintro e w9 ⟨rfl, hb9⟩
          have hB9 := hBr.trans (hb9.mono hBr.size)
          go_wp2
          go_ret
          exact ⟨by simp, hB9⟩
end Go.Proofs.YtnlbapheggnlpabDoor
