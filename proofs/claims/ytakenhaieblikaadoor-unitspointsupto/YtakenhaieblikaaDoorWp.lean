import Derived.Test.YtakenhaieblikaaDoorWo
import Derived.Deep.QuietTactic
import Derived.BigQuiet
namespace Go.Proofs.YtakenhaieblikaaDoor
open Go.RowKit Go.Shelf

theorem nums_extract2 (u : ByteArray) (i k : Nat) : nums (u.extract i k) = ((nums u).take k).drop i := by
  unfold nums
  rw [ByteArray.data_extract, Array.toList_extract, ← List.map_take, ← List.map_drop]
  congr 1
  rw [List.extract_eq_take_drop, List.drop_take]
theorem nums_encode (j : Nat) (h1 : j ≤ 1114111) (h2 : 65536 ≤ j) : nums (Utf8.encode (j : Int)) = M.E j := by
  have hv : Utf8.valid (j : Int) = true := by rw [valid_nat, M.okc_iff]; omega
  have hE : M.E j = [240 + j / 262144, 128 + j / 4096 % 64, 128 + j / 64 % 64, 128 + j % 64] := by
    unfold M.E; rw [if_neg (by omega), if_neg (by omega), if_neg (by omega)]
  rw [hE]
  unfold Utf8.encode
  simp only [hv, if_true, Int.toNat_natCast]
  rw [if_neg (by omega), if_neg (by omega), if_neg (by omega)]
  simp only [nums, List.map_cons, List.map_nil, UInt8.toNat_ofNat', List.cons.injEq, and_true]
  omega
set_option maxHeartbeats 2000000 in
set_option maxRecDepth 100000 in
theorem meet_any (a b : ByteArray) (hsa : a.size ≤ 1099511627776) (hsb : b.size ≤ 1099511627776) (w : World) :
    Calls Tryd.prog 55 #[.string a, .string b] w fun e w' => ∃ h m t, e = .returned (.tuple #[.string h, .string m, .string t]) ∧ nums h = (M.meetL (nums a) (nums b)).1 ∧ nums m = (M.meetL (nums a) (nums b)).2.1 ∧ nums t = (M.meetL (nums a) (nums b)).2.2 ∧ Below w.heap.size w w' := by
  have hn0 : nums ⟨#[]⟩ = [] := rfl
  by_cases h1 : a.size < 3
  · have e : M.meetL (nums a) (nums b) = (nums a, [], nums b) := by unfold M.meetL; rw [nums_len, if_pos (.inl h1)]
    rw [e]
    have h1' : (a.size : Int) < 3 := by omega
    go_enter Tryd.func55, Tryd.ntmps55
    go_wp2
    go_ret3
    exact ⟨_, _, _, rfl, rfl, hn0, rfl, Below.refl _ _⟩
  by_cases h2 : b.size < 3
  · have e : M.meetL (nums a) (nums b) = (nums a, [], nums b) := by unfold M.meetL; rw [nums_len, nums_len, if_pos (.inr h2)]
    rw [e]
    have h1' : ¬ (a.size : Int) < 3 := by omega
    have h2' : (b.size : Int) < 3 := by omega
    go_enter Tryd.func55, Tryd.ntmps55
    go_wp2
    go_ret3
    exact ⟨_, _, _, rfl, rfl, hn0, rfl, Below.refl _ _⟩
  have h1' : ¬ (a.size : Int) < 3 := by omega
  have h2' : ¬ (b.size : Int) < 3 := by omega
  have hcut : nums (a.extract (a.size - 3) a.size) = (nums a).drop ((nums a).length - 3) := by rw [nums_extract, nums_len]
  have hS1 := fun w => surr_any (a.extract (a.size - 3) a.size) w
  rw [hcut] at hS1
  have hS2 := fun w => surr_any b w
  have hmt : M.meetL (nums a) (nums b) = if M.isHi (M.surr ((nums a).drop ((nums a).length - 3))).1 = true ∧ M.isLo (M.surr (nums b)).1 = true then ((nums a).take ((nums a).length - 3), M.E (M.jn (M.surr ((nums a).drop ((nums a).length - 3))).1 (M.surr (nums b)).1), (nums b).drop 3) else (nums a, [], nums b) := by
    unfold M.meetL; rw [if_neg (by rw [nums_len, nums_len]; omega)]
  rw [hmt]
  clear hmt hcut
  generalize M.surr ((nums a).drop ((nums a).length - 3)) = p at *
  generalize M.surr (nums b) = q at *
  obtain ⟨c1, n1⟩ := p
  obtain ⟨c2, n2⟩ := q
  dsimp only at *
  have HS1 := hide hS1; have HS2 := hide hS2; clear hS1 hS2
  have hz : (0 : Int) ≤ (a.size : Int) - 3 := by omega
  have hz2 : (a.size : Int) - 3 ≤ (a.size : Int) := by omega
  have hz3 : (3 : Int) ≤ (b.size : Int) := by omega
  have HHI := hide (hiZ_nat c1)
  have HLO := hide (loZ_nat c2)
  cases hhi : M.isHi c1 with
  | false =>
    rw [if_neg (by simp)]
    go_enter Tryd.func55, Tryd.ntmps55
    go_wp2_with fail
    refine (unhide HS1 _).mono ?_
    rintro e w1 ⟨rfl, m1, rfl⟩
    go_wp2_with fail
    refine (unhide HS2 _).mono ?_
    rintro e w2 ⟨rfl, m2, rfl⟩
    go_wp2_with fail
    refine (isHigh_any _ _).mono ?_
    rintro e w3 ⟨rfl, rfl⟩
    rw [unhide HHI, hhi]
    go_wp2
    go_ret3
    exact ⟨_, _, _, rfl, rfl, hn0, rfl, below_drewN' _ _ _⟩
  | true =>
    cases hlo : M.isLo c2 with
    | false =>
      rw [if_neg (by simp)]
      go_enter Tryd.func55, Tryd.ntmps55
      go_wp2_with fail
      refine (unhide HS1 _).mono ?_
      rintro e w1 ⟨rfl, m1, rfl⟩
      go_wp2_with fail
      refine (unhide HS2 _).mono ?_
      rintro e w2 ⟨rfl, m2, rfl⟩
      go_wp2_with fail
      refine (isHigh_any _ _).mono ?_
      rintro e w3 ⟨rfl, rfl⟩
      rw [unhide HHI, hhi]
      go_wp2_with fail
      refine (isLow_any _ _).mono ?_
      rintro e w3 ⟨rfl, rfl⟩
      rw [unhide HLO, hlo]
      go_wp2
      go_ret3
      exact ⟨_, _, _, rfl, rfl, hn0, rfl, below_drewN' _ _ _⟩
    | true =>
      rw [if_pos ⟨rfl, rfl⟩]
      have d1 := (M.isHi_iff c1).1 hhi
      have d2 := (M.isLo_iff c2).1 hlo
      have hjb : M.jn c1 c2 ≤ 1114111 ∧ 65536 ≤ M.jn c1 c2 := by unfold M.jn; omega
      have hjz : 65536 + 1024 * ((c1 : Int) - 55296) + ((c2 : Int) - 56320) = (M.jn c1 c2 : Int) := by unfold M.jn; omega
      generalize M.jn c1 c2 = j at *
      have HJ := hide hjz; clear hjz
      have hJ : ∀ w, Calls Tryd.prog 50 #[.int .i32 (c1 : Int), .int .i32 (c2 : Int)] w fun e w' => e = .returned (.int .i32 (j : Int)) ∧ w' = w := fun w => by
        refine (join_any (c1 : Int) (c2 : Int) (by omega) (by omega) (by omega) (by omega) w).mono ?_
        rintro e w' ⟨rfl, rfl⟩
        exact ⟨ret_int (unhide HJ), rfl⟩
      have HJJ := hide hJ; clear hJ
      go_enter Tryd.func55, Tryd.ntmps55
      go_wp2_with fail
      refine (unhide HS1 _).mono ?_
      rintro e w1 ⟨rfl, m1, rfl⟩
      go_wp2_with fail
      refine (unhide HS2 _).mono ?_
      rintro e w2 ⟨rfl, m2, rfl⟩
      go_wp2_with fail
      refine (isHigh_any _ _).mono ?_
      rintro e w3 ⟨rfl, rfl⟩
      rw [unhide HHI, hhi]
      go_wp2_with fail
      refine (isLow_any _ _).mono ?_
      rintro e w3 ⟨rfl, rfl⟩
      rw [unhide HLO, hlo]
      go_wp2_with fail
      go_quiet ((go_at_call 50; refine (unhide HJJ _).mono ?_; rintro e w' ⟨rfl, rfl⟩; exact ⟨rfl, _, rfl⟩))
      go_wp2
      go_ret3
      refine ⟨_, _, _, rfl, ?_, ?_, ?_, (below_drewN' _ _ _).trans (below_drewN' _ _ _)⟩
      · rw [nums_extract2, List.drop_zero, nums_len]
      · exact nums_encode j hjb.1 (by omega)
      · rw [nums_extract]

def okC (a b : ByteArray) : Bool := vS a && vS b
def catR (a b : ByteArray) : List Nat := M.ofL (unS a ++ unS b)
def catL (a b : ByteArray) : List Nat := if okC a b && decide ((catR a b).length ≤ 1048576) then catR a b else []
def catE (a b : ByteArray) : Int := if okC a b then (if (catR a b).length ≤ 1048576 then 0 else 6) else 10
theorem cat_bad {a b : ByteArray} (h : okC a b = false) : catL a b = [] ∧ catE a b = 10 := by unfold catL catE; rw [h]; exact ⟨rfl, rfl⟩
theorem cat_long {a b : ByteArray} (h : okC a b = true) (hl : 1048576 < (catR a b).length) : catL a b = [] ∧ catE a b = 6 := by
  have h1 : ¬ (catR a b).length ≤ 1048576 := by omega
  unfold catL catE; simp [h, h1]
theorem cat_ok {a b : ByteArray} (h : okC a b = true) (hl : (catR a b).length ≤ 1048576) : catL a b = catR a b ∧ catE a b = 0 := by
  unfold catL catE; simp [h, hl]
theorem join3 (h m t : ByteArray) : Lib.join ([h, m, t].map (·.data.toList)) (⟨#[]⟩ : ByteArray).data.toList = h.data.toList ++ (m.data.toList ++ t.data.toList) := by
  simp [Lib.join_cons, Lib.joinTail]
theorem nums_join3 (h m t : ByteArray) : nums ⟨(Lib.join ([h, m, t].map (·.data.toList)) (⟨#[]⟩ : ByteArray).data.toList).toArray⟩ = nums h ++ (nums m ++ nums t) := by
  rw [join3, nums_of]; simp [nums]
theorem meet_cat (a b : ByteArray) (h : okC a b = true) : (M.meetL (nums a) (nums b)).1 ++ ((M.meetL (nums a) (nums b)).2.1 ++ (M.meetL (nums a) (nums b)).2.2) = catR a b := by
  unfold okC at h
  simp only [Bool.and_eq_true] at h
  obtain ⟨cs, h1, h2, h3⟩ := valid_cs a h.1
  obtain ⟨ds, g1, g2, g3⟩ := valid_cs b h.2
  rw [M.meet_spec (nums a) (nums b) _ _ h3 g3]
  unfold catR
  rw [h2, g2]; rfl

set_option maxHeartbeats 2000000 in
set_option maxRecDepth 100000 in
theorem concat_any (a b : ByteArray) (hsa : a.size ≤ 1099511627776) (hsb : b.size ≤ 1099511627776) (w : World) (hT : Lib.Utf8Tabs 0 1 w) :
    Calls Tryd.prog 28 #[.string a, .string b] w fun e w' => ∃ t, e = .returned (.tuple #[.string t, .int .i64 (catE a b)]) ∧ nums t = catL a b ∧ Below w.heap.size w w' := by
  have hva := valid_any a w hT
  have hvb : ∀ w', Below w.heap.size w w' → Calls Tryd.prog 15 #[.string b] w' fun e w'' => e = .returned (.bool (M.valid false (nums b))) ∧ Below w'.heap.size w' w'' := fun w' h => valid_any b w' (tabs_below hT h)
  have hm := fun w => meet_any a b hsa hsb w
  have hml := M.meet_len (nums a) (nums b)
  rw [nums_len, nums_len] at hml
  have hmc := meet_cat a b
  have hbad := @cat_bad a b
  have hlong := @cat_long a b
  have hok := @cat_ok a b
  unfold okC vS at hmc hbad hlong hok
  generalize catE a b = CE at *
  generalize catL a b = CL at *
  generalize catR a b = CR at *
  generalize M.meetL (nums a) (nums b) = mt at *
  obtain ⟨mh, mm, mtl⟩ := mt
  dsimp only at *
  generalize M.valid false (nums a) = va at *
  generalize M.valid false (nums b) = vb at *
  have HVA := hide hva; have HVB := hide hvb; have HM := hide hm; clear hva hvb hm
  have hn0 : nums ⟨#[]⟩ = [] := rfl
  cases va with
  | false =>
    obtain ⟨rfl, rfl⟩ := hbad rfl
    clear hbad hlong hok hmc
    go_enter Tryd.func28, Tryd.ntmps28
    go_wp2_with fail
    refine (unhide HVA).mono ?_
    rintro e w1 ⟨rfl, hb1⟩
    go_wp2
    go_ret2
    exact ⟨_, rfl, hn0, hb1⟩
  | true =>
    cases vb with
    | false =>
      obtain ⟨rfl, rfl⟩ := hbad rfl
      clear hbad hlong hok hmc
      go_enter Tryd.func28, Tryd.ntmps28
      go_wp2_with fail
      refine (unhide HVA).mono ?_
      rintro e w1 ⟨rfl, hb1⟩
      go_wp2_with fail
      refine (unhide HVB w1 hb1).mono ?_
      rintro e w2 ⟨rfl, hb2⟩
      go_wp2
      go_ret2
      exact ⟨_, rfl, hn0, hb1.trans (hb2.mono hb1.size)⟩
    | true =>
      have hcr := hmc rfl
      clear hbad hmc
      have hcl := congrArg List.length hcr
      simp only [List.length_append] at hcl
      by_cases hbig : 1048576 < CR.length
      · obtain ⟨rfl, rfl⟩ := hlong rfl hbig
        clear hlong hok
        go_enter Tryd.func28, Tryd.ntmps28
        go_wp2_with fail
        refine (unhide HVA).mono ?_
        rintro e w1 ⟨rfl, hb1⟩
        go_wp2_with fail
        refine (unhide HVB w1 hb1).mono ?_
        rintro e w2 ⟨rfl, hb2⟩
        go_wp2_with fail
        refine (unhide HM w2).mono ?_
        rintro e w3 ⟨h, m, t, rfl, e1, e2, e3, hb3⟩
        have l1 : h.size = mh.length := by rw [← nums_len, e1]
        have l2 : m.size = mm.length := by rw [← nums_len, e2]
        have l3 : t.size = mtl.length := by rw [← nums_len, e3]
        have hs : (1048576 : Int) < (h.size : Int) + (m.size : Int) + (t.size : Int) := by omega
        have hs2 : (h.size : Int) + (m.size : Int) + (t.size : Int) ≤ 4398046511104 := by omega
        have L1 := hide l1; have L2 := hide l2; have L3 := hide l3; have E1 := hide e1; have E2 := hide e2; have E3 := hide e3; clear l1 l2 l3 e1 e2 e3 hcr hcl
        go_wp2
        go_ret2
        exact ⟨_, rfl, hn0, hb1.trans ((hb2.mono hb1.size).trans (hb3.mono (Nat.le_trans hb1.size hb2.size)))⟩
      · obtain ⟨hcl', rfl⟩ := hok rfl (by omega)
        clear hlong hok
        go_enter Tryd.func28, Tryd.ntmps28
        go_wp2_with fail
        refine (unhide HVA).mono ?_
        rintro e w1 ⟨rfl, hb1⟩
        go_wp2_with fail
        refine (unhide HVB w1 hb1).mono ?_
        rintro e w2 ⟨rfl, hb2⟩
        go_wp2_with fail
        refine (unhide HM w2).mono ?_
        rintro e w3 ⟨h, m, t, rfl, e1, e2, e3, hb3⟩
        have l1 : h.size = mh.length := by rw [← nums_len, e1]
        have l2 : m.size = mm.length := by rw [← nums_len, e2]
        have l3 : t.size = mtl.length := by rw [← nums_len, e3]
        have hs : ¬ (1048576 : Int) < (h.size : Int) + (m.size : Int) + (t.size : Int) := by omega
        have hs2 : (h.size : Int) + (m.size : Int) + (t.size : Int) ≤ 4398046511104 := by omega
        have L1 := hide l1; have L2 := hide l2; have L3 := hide l3; have E1 := hide e1; have E2 := hide e2; have E3 := hide e3; have HCR := hide hcr; have HCL := hide hcl'; clear l1 l2 l3 e1 e2 e3 hcr hcl hcl'
        go_wp2_with fail
        have hj := Tryd.strings_Join w3.heap.size 0 3 [h, m, t] ⟨#[]⟩ (w3.alloc (.cells #[.string h, .string m, .string t] 9)) (fun j x hx => by
          have := news_cells w3 #[.string h, .string m, .string t] 9 j (.string x) (by
            rcases j with _ | _ | _ | j
            · simpa using hx
            · simpa using hx
            · simpa using hx
            · simp at hx)
          rwa [add_plain] at this) (by simp) (by simp) (by simp) (by
          rw [join3]
          have e1 : h.data.toList.length = h.size := rfl
          have e2 : m.data.toList.length = m.size := rfl
          have e3 : t.data.toList.length = t.size := rfl
          rw [List.length_append, List.length_append, e1, e2, e3]; omega)
        refine hj.mono ?_
        rintro e w4 ⟨rfl, hb4⟩
        go_wp2
        go_ret2
        refine ⟨_, rfl, ?_, ?_⟩
        · rw [unhide HCL, ← unhide HCR]
          refine (nums_join3 h m t).trans ?_
          rw [unhide E1, unhide E2, unhide E3]
        · have hB3 := hb1.trans ((hb2.mono hb1.size).trans (hb3.mono (Nat.le_trans hb1.size hb2.size)))
          exact (hB3.alloc hB3.size _).trans (hb4.mono (by have := hB3.size; simp; omega))
end Go.Proofs.YtakenhaieblikaaDoor
