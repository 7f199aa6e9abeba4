import Derived.Test.YtcflglloopgieaaGreatDoorQr

/-! Ik -/
namespace Go.Proofs.YtcflglloopgieaaGreatDoor
open Go Go.Proofs Go.Maps Go.RowKit FM
set_option linter.unusedSimpArgs false
set_option linter.unusedVariables false
set_option maxHeartbeats 1000000
theorem ex_addI {o : Oper} {a : Act} {w : World} {x y : Operand} {n m r : Int} (ho : o.op = .binOp .add 3 x y 3) (hx : a.eval x = .int .i64 n) (hc : a.eval y = .int .i64 m) (h : IntKind.i64.wrap (n + m) = r) : (execOp a.eval o).run Tryz.prog w = .ok (.value (.int .i64 r)) w := by
  unfold execOp
  simp only [ho, hx, hc]
  simp [go_sem, eqGuard, h]
def rbV (c : CO) : Nat → Bool
  | 0 => c.gone
  | 1 => clV c
  | 2 => oaV c
  | 3 => opV c
  | 4 => mkV c
  | _ => prV c
theorem rbV_congr {c d : CO} (h1 : c.was = d.was) (h2 : c.is = d.is) (h3 : c.gone = d.gone) (j : Nat) : rbV c j = rbV d j := by
  obtain ⟨a, A, x, b, B, y, g⟩ := c
  obtain ⟨a', A', x', b', B', y', g'⟩ := d
  dsimp only at h1 h2 h3
  subst h1 h2 h3
  match j with
  | 0 => rfl
  | 1 => rfl
  | 2 => rfl
  | 3 => rfl
  | 4 => rfl
  | _ + 5 => rfl
def coA (bs ns : List SH) (i : Nat) : CO := ⟨bs.getD i zeroS, none, 0, ns.getD i zeroS, none, 0, ns[i]?.isNone⟩
def NoR (c : CO) (j : Nat) : Prop := ∀ q, q < j → rbV c q = false
theorem NoR.zero (c : CO) : NoR c 0 := fun j hj => absurd hj (Nat.not_lt_zero _)
theorem NoR.step {c : CO} {i : Nat} (h : NoR c i) (hk : rbV c i = false) : NoR c (i + 1) := fun j hj => by
  rcases Nat.lt_succ_iff_lt_or_eq.1 hj with h1 | h1
  · exact h j h1
  · subst h1
    exact hk
def NoC (bs ns : List SH) (i : Nat) : Prop := ∀ q, q < i → NoR (coA bs ns q) 6
theorem NoC.zero (bs ns : List SH) : NoC bs ns 0 := fun j hj => absurd hj (Nat.not_lt_zero _)
theorem NoC.step {bs ns : List SH} {i : Nat} (h : NoC bs ns i) (hk : NoR (coA bs ns i) 6) : NoC bs ns (i + 1) := fun j hj => by
  rcases Nat.lt_succ_iff_lt_or_eq.1 hj with h1 | h1
  · exact h j h1
  · subst h1
    exact hk
/-- What Broken answers. -/
def BrP (bs ns : List SH) (o r : Int) : Prop := (o = 0 ∧ r = 0 ∧ NoC bs ns bs.length) ∨ ∃ i j : Nat, i < bs.length ∧ j < 6 ∧ o = (i : Int) + 1 ∧ r = (j : Int) + 1 ∧ rbV (coA bs ns i) j = true ∧ NoR (coA bs ns i) j ∧ NoC bs ns i
def BkPost (w : World) (bs ns : List SH) (e : Ending) (X : World) : Prop := ∃ o r : Int, e = .returned (.tuple #[.int .i64 o, .int .i64 r]) ∧ BrP bs ns o r ∧ Below w.heap.size w X
theorem co_same {bs ns : List SH} {i : Nat} {c : CO} (h1 : bs[i]? = some c.was) (h2 : (c.gone = true ∧ ns[i]? = none ∧ c.is = zeroS) ∨ (c.gone = false ∧ ns[i]? = some c.is)) (j : Nat) : rbV c j = rbV (coA bs ns i) j := by
  refine rbV_congr ?_ ?_ ?_ j
  · simp [coA, h1]
  · rcases h2 with ⟨a, b, d⟩ | ⟨a, b⟩
    · simp [coA, b, d]
    · simp [coA, b]
  · rcases h2 with ⟨a, b, d⟩ | ⟨a, b⟩
    · simp [coA, a, b]
    · simp [coA, a, b]
set_option maxHeartbeats 2000000 in
set_option maxRecDepth 100000 in
theorem broken_any (A B : Option Addr) (cap cap2 : Nat) (bs ns : List SH) (w : World) (hB : ReadsS w A bs) (hC : ReadsS w B ns) (hz : bs.length ≤ 100000) (hz2 : ns.length ≤ 100000) (hT : Lib.Utf8Tabs 1 2 w) : Calls Tryz.prog 7 #[.slice A bs.length cap, .slice B ns.length cap2] w (BkPost w bs ns) := by
  have LL := hide (Hq.nil w [])
  have HB := hide hB
  have HC := hide hC
  have HZ := hide hz
  have HZ2 := hide hz2
  have HT := hide hT
  clear hB hC hz hz2 hT
  go_enter Tryz.func7, Tryz.ntmps7
  go_wp2_with (first | go_skip | ((with_reducible show wpList _ _ _ _ _ _); first | ((refine rd (by rfl) (ex_lenG 22 34 Tryz.underlying22 rfl rfl) ?_); simp only [Act.put, List.setIfInBounds_toArray, List.set_cons_succ, List.set_cons_zero])))
  refine (rules_any _).mono ?_
  rintro e X0 ⟨BR, rfl, hBR, hq⟩
  replace LL := hide hq
  clear hq
  go_wp2_with (first | go_skip | ((with_reducible show wpList _ _ _ _ _ _); first | ((refine rd (by rfl) (ex_lenG 22 34 Tryz.underlying22 rfl rfl) ?_); simp only [Act.put, List.setIfInBounds_toArray, List.set_cons_succ, List.set_cons_zero])))
  go_loopg [14] bs.length (fun gm s14 wr => ∃ i : Nat, s14 = .int .i64 (i : Nat) ∧ i ≤ bs.length ∧ bs.length - i ≤ gm ∧ Hid (NoC bs ns i) ∧ Hid (Hq w wr [] [(BR, ruleCs)]))
  case atStart => exact ⟨0, rfl, by omega, by omega, hide (NoC.zero _ _), LL⟩
  case round =>
    clear LL
    obtain ⟨i, rfl, hil, hgm, HD, LL⟩ := hrel
    by_cases hlt : i < bs.length
    · have dlt : decide ((i : Int) < (bs.length : Int)) = true := decide_eq_true (by omega)
      have hw1 : IntKind.i64.wrap ((i : Int) + 1) = (i : Int) + 1 := by have := unhide HZ; rw [IntKind.wrap_i64]; omega
      have HLT := hide hlt
      have hCO := courseOf_any A B cap cap2 bs ns i w wr (unhide HB) (unhide HC) (unhide LL).fr hlt (unhide HZ) (unhide HZ2)
      have HCO := hide hCO
      clear hCO hlt hil
      go_wp2_with (first | go_skip | ((with_reducible show wpList _ _ _ _ _ _); first | ((refine rd (by rfl) (ex_lenG 22 34 Tryz.underlying22 rfl rfl) ?_); simp only [Act.put, List.setIfInBounds_toArray, List.set_cons_succ, List.set_cons_zero])))
      refine (unhide HCO).mono ?_
      rintro e X7 ⟨c, rfl, hc1, hc2, hc3, hc4, hc5, hc6, hc7, hc8, hb7⟩
      have HX := hide (And.intro hc2 (And.intro hc3 (And.intro hc4 hc5)))
      have HS := hide (co_same (bs := bs) (ns := ns) (i := i) hc1 hc8)
      replace LL := hide ((unhide LL).on hb7)
      rw [coagg]
      clear hc1 hc2 hc3 hc4 hc5 hc6 hc7 hc8 hb7 HCO
      go_wp2_with (first | go_skip | ((with_reducible show wpList _ _ _ _ _ _); first | ((refine alG 46 (zeroC.cs) (by rfl) rfl (fun w => by kernel_rfl) (Nat.succ_pos _) (unhide LL) ?_); intro X8 B8 hE8 L8 hb8; have hB8 := hide (Nat.le_trans (unhide LL).fr.size (Nat.le_of_eq hE8.symm)); replace LL := hide L8; clear L8 hb8 hE8; simp only [Act.put, List.setIfInBounds_toArray, List.set_cons_succ, List.set_cons_zero]) | ((refine st (vs := c.cs) 1 46 (by rfl) rfl rfl rfl rfl (cocs_one _) szC (unhide LL) rfl (by simp [cput, CO.cs, SH.cs, VV.cs, zeroC, zeroS, zeroV]) (Or.inr (unhide hB8)) ?_); intro X4 L4 hf4 hs4; replace LL := hide L4; clear L4 hf4 hs4; simp only [Act.put, List.setIfInBounds_toArray, List.set_cons_succ, List.set_cons_zero]) | ((refine rd (by rfl) (ex_lenG 43 50 Tryz.underlying43 rfl rfl) ?_); simp only [Act.put, List.setIfInBounds_toArray, List.set_cons_succ, List.set_cons_zero])))
      obtain ⟨w2, hw2⟩ : ∃ w2, w2 = wr := ⟨_, rfl⟩
      subst hw2
      go_loopg [23] 6 (fun gm s23 wr => ∃ j : Nat, s23 = .int .i64 (j : Nat) ∧ j ≤ 6 ∧ 6 - j ≤ gm ∧ Hid (NoR c j) ∧ Hid (Hq w wr [] [(BR, ruleCs), (B8, c.cs)]))
      case atStart => exact ⟨0, rfl, by omega, by omega, hide (NoR.zero _), LL⟩
      case round =>
        clear LL
        obtain ⟨j, rfl, hjl, hgm2, HE, LL⟩ := hrel
        by_cases hj6 : j < 6
        · have hj : j = 0 ∨ j = 1 ∨ j = 2 ∨ j = 3 ∨ j = 4 ∨ j = 5 := by omega
          clear hj6 hjl
          rcases hj with rfl | rfl | rfl | rfl | rfl | rfl
          · go_wp2_with (first | go_skip | ((with_reducible show wpList _ _ _ _ _ _); first | ((refine rd (by rfl) (ex_indexG 43 2 0 unRs idRs rfl rfl rfl (by decide)) ?_); simp only [Act.put, List.setIfInBounds_toArray, List.set_cons_succ, List.set_cons_zero]) | ((refine rd (by rfl) (ex_loadN (vs := [.int .i64 1, .func (.func 36) #[] #[]]) 50 2 rwR szR rfl rfl ((unhide LL).get 0 rfl) rfl rfl) ?_); simp only [Act.put, List.setIfInBounds_toArray, List.set_cons_succ, List.set_cons_zero]) | ((refine alG 50 ([.int .i64 0, .nilFunc]) (by rfl) rfl (fun w => by kernel_rfl) (Nat.succ_pos _) (unhide LL) ?_); intro X9 B9 hE9 L9 hb9; have hB9 := hide (Nat.le_trans (unhide LL).fr.size (Nat.le_of_eq hE9.symm)); replace LL := hide L9; clear L9 hb9 hE9; simp only [Act.put, List.setIfInBounds_toArray, List.set_cons_succ, List.set_cons_zero]) | ((refine st (vs := [.int .i64 1, .func (.func 36) #[] #[]]) 2 50 (by rfl) rfl rfl rfl rfl (by simp [Value.oneCell']) szR (unhide LL) rfl (by simp [cput]) (Or.inr (unhide hB9)) ?_); intro X5 L5 hf5 hs5; replace LL := hide L5; clear L5 hf5 hs5; simp only [Act.put, List.setIfInBounds_toArray, List.set_cons_succ, List.set_cons_zero]) | ((refine rd (by rfl) (ex_load1 48 Tryz.isAgg48 rfl rfl ((unhide LL).get 2 rfl) rfl) ?_); simp only [Act.put, List.setIfInBounds_toArray, List.set_cons_succ, List.set_cons_zero]) | ((refine rd (by rfl) (ex_loadN (vs := c.cs) 46 17 rwC szC rfl rfl ((unhide LL).get 1 rfl) rfl rfl) ?_); simp only [Act.put, List.setIfInBounds_toArray, List.set_cons_succ, List.set_cons_zero]) | ((refine rd (by rfl) (ex_lenG 43 50 Tryz.underlying43 rfl rfl) ?_); simp only [Act.put, List.setIfInBounds_toArray, List.set_cons_succ, List.set_cons_zero])))
            have HCC := fun X => lost_any c X
            simp only [coagg] at HCC
            refine (HCC _).mono ?_
            clear HCC
            rintro e X6 ⟨rfl, hb6⟩
            replace LL := hide ((unhide LL).on hb6)
            clear hb6
            cases hr : rbV c 0
            · have HE2 := hide ((unhide HE).step hr)
              have e2 : c.gone = false := hr
              rw [e2]
              clear hr e2 HE
              go_wp2_with (first | go_skip | ((with_reducible show wpList _ _ _ _ _ _); first | ((refine rd (by rfl) (ex_indexG 43 2 0 unRs idRs rfl rfl rfl (by decide)) ?_); simp only [Act.put, List.setIfInBounds_toArray, List.set_cons_succ, List.set_cons_zero]) | ((refine rd (by rfl) (ex_loadN (vs := [.int .i64 1, .func (.func 36) #[] #[]]) 50 2 rwR szR rfl rfl ((unhide LL).get 0 rfl) rfl rfl) ?_); simp only [Act.put, List.setIfInBounds_toArray, List.set_cons_succ, List.set_cons_zero]) | ((refine alG 50 ([.int .i64 0, .nilFunc]) (by rfl) rfl (fun w => by kernel_rfl) (Nat.succ_pos _) (unhide LL) ?_); intro X9 B9 hE9 L9 hb9; have hB9 := hide (Nat.le_trans (unhide LL).fr.size (Nat.le_of_eq hE9.symm)); replace LL := hide L9; clear L9 hb9 hE9; simp only [Act.put, List.setIfInBounds_toArray, List.set_cons_succ, List.set_cons_zero]) | ((refine st (vs := [.int .i64 1, .func (.func 36) #[] #[]]) 2 50 (by rfl) rfl rfl rfl rfl (by simp [Value.oneCell']) szR (unhide LL) rfl (by simp [cput]) (Or.inr (unhide hB9)) ?_); intro X5 L5 hf5 hs5; replace LL := hide L5; clear L5 hf5 hs5; simp only [Act.put, List.setIfInBounds_toArray, List.set_cons_succ, List.set_cons_zero]) | ((refine rd (by rfl) (ex_load1 48 Tryz.isAgg48 rfl rfl ((unhide LL).get 2 rfl) rfl) ?_); simp only [Act.put, List.setIfInBounds_toArray, List.set_cons_succ, List.set_cons_zero]) | ((refine rd (by rfl) (ex_loadN (vs := c.cs) 46 17 rwC szC rfl rfl ((unhide LL).get 1 rfl) rfl rfl) ?_); simp only [Act.put, List.setIfInBounds_toArray, List.set_cons_succ, List.set_cons_zero]) | ((refine rd (by rfl) (ex_lenG 43 50 Tryz.underlying43 rfl rfl) ?_); simp only [Act.put, List.setIfInBounds_toArray, List.set_cons_succ, List.set_cons_zero])))
              replace LL := hide (Hq.left (L := [(BR, ruleCs), (B8, c.cs)]) (unhide LL))
              go_roundg (6 - (0 + 1))
              case measure => omega
              case rel => exact ⟨0 + 1, by go_num, by omega, by omega, HE2, LL⟩
            · have HF : Hid (BrP bs ns ((i : Int) + 1) 1) := hide (.inr ⟨i, 0, unhide HLT, by decide, rfl, rfl, by rw [← unhide HS]; exact hr, fun q hq => by rw [← unhide HS]; exact (unhide HE) q hq, unhide HD⟩)
              have e2 : c.gone = true := hr
              rw [e2]
              clear hr e2 HE HD
              go_wp2_with (first | go_skip | ((with_reducible show wpList _ _ _ _ _ _); first | ((refine rd (by rfl) (ex_indexG 43 2 0 unRs idRs rfl rfl rfl (by decide)) ?_); simp only [Act.put, List.setIfInBounds_toArray, List.set_cons_succ, List.set_cons_zero]) | ((refine rd (by rfl) (ex_loadN (vs := [.int .i64 1, .func (.func 36) #[] #[]]) 50 2 rwR szR rfl rfl ((unhide LL).get 0 rfl) rfl rfl) ?_); simp only [Act.put, List.setIfInBounds_toArray, List.set_cons_succ, List.set_cons_zero]) | ((refine alG 50 ([.int .i64 0, .nilFunc]) (by rfl) rfl (fun w => by kernel_rfl) (Nat.succ_pos _) (unhide LL) ?_); intro X9 B9 hE9 L9 hb9; have hB9 := hide (Nat.le_trans (unhide LL).fr.size (Nat.le_of_eq hE9.symm)); replace LL := hide L9; clear L9 hb9 hE9; simp only [Act.put, List.setIfInBounds_toArray, List.set_cons_succ, List.set_cons_zero]) | ((refine st (vs := [.int .i64 1, .func (.func 36) #[] #[]]) 2 50 (by rfl) rfl rfl rfl rfl (by simp [Value.oneCell']) szR (unhide LL) rfl (by simp [cput]) (Or.inr (unhide hB9)) ?_); intro X5 L5 hf5 hs5; replace LL := hide L5; clear L5 hf5 hs5; simp only [Act.put, List.setIfInBounds_toArray, List.set_cons_succ, List.set_cons_zero]) | ((refine rd (by rfl) (ex_load1 48 Tryz.isAgg48 rfl rfl ((unhide LL).get 2 rfl) rfl) ?_); simp only [Act.put, List.setIfInBounds_toArray, List.set_cons_succ, List.set_cons_zero]) | ((refine rd (by rfl) (ex_loadN (vs := c.cs) 46 17 rwC szC rfl rfl ((unhide LL).get 1 rfl) rfl rfl) ?_); simp only [Act.put, List.setIfInBounds_toArray, List.set_cons_succ, List.set_cons_zero]) | ((refine rd (by rfl) (ex_lenG 43 50 Tryz.underlying43 rfl rfl) ?_); simp only [Act.put, List.setIfInBounds_toArray, List.set_cons_succ, List.set_cons_zero])))
              have hq0 : Hq w _ [] [(BR, ruleCs), (B8, c.cs), (B9, [.int .i64 1, .func (.func 36) #[] #[]])] := (unhide LL).drew
              refine wp_region_held_drew (P := Tryz.prog) (S := fun X => Hq w X [] [(BR, ruleCs), (B8, c.cs), (B9, [.int .i64 1, .func (.func 36) #[] #[]])]) (by kernel_rfl) hq0 (fun hS0 => ?_)
              refine gsem 0 (some 31) (.int .i64 (i : Nat)) rfl (by kernel_rfl) (by kernel_rfl) (by kernel_rfl) (fun _ _ _ h => h) (by kernel_rfl) (by kernel_rfl) (fun _ _ => by kernel_rfl) hq0 ?_
              simp only [Act.put, List.setIfInBounds_toArray, List.set_cons_succ, List.set_cons_zero]
              refine gsem 1 (some 32) (.int .i64 ((i : Int) + 1)) rfl (by kernel_rfl) (by kernel_rfl) (by kernel_rfl) (fun _ _ _ h => h) (by kernel_rfl) (by kernel_rfl) (fun X hX => ex_addI rfl rfl rfl hw1) hq0 ?_
              simp only [Act.put, List.setIfInBounds_toArray, List.set_cons_succ, List.set_cons_zero]
              refine gsem 2 (some 33) (.pointer (some ⟨B9, 0, none⟩)) rfl (by kernel_rfl) (by kernel_rfl) (by kernel_rfl) (fun _ _ _ h => h) (by kernel_rfl) (by kernel_rfl) (fun _ _ => by kernel_rfl) hq0 ?_
              simp only [Act.put, List.setIfInBounds_toArray, List.set_cons_succ, List.set_cons_zero]
              refine gsem 3 (some 34) (.int .i64 1) rfl (by kernel_rfl) (by kernel_rfl) (by kernel_rfl) (fun _ _ _ h => h) (by kernel_rfl) (by kernel_rfl) (fun X hX => ex_load1 3 Tryz.isAgg3 rfl rfl (hX.get 2 rfl) rfl) hq0 ?_
              simp only [Act.put, List.setIfInBounds_toArray, List.set_cons_succ, List.set_cons_zero]
              refine gsem 4 (some 4) (.int .i64 ((i : Int) + 1)) rfl (by kernel_rfl) (by kernel_rfl) (by kernel_rfl) (fun _ _ _ h => h) (by kernel_rfl) (by kernel_rfl) (fun _ _ => by kernel_rfl) hq0 ?_
              simp only [Act.put, List.setIfInBounds_toArray, List.set_cons_succ, List.set_cons_zero]
              refine gsem 5 (some 5) (.int .i64 1) rfl (by kernel_rfl) (by kernel_rfl) (by kernel_rfl) (fun _ _ _ h => h) (by kernel_rfl) (by kernel_rfl) (fun _ _ => by kernel_rfl) hq0 ?_
              simp only [Act.put, List.setIfInBounds_toArray, List.set_cons_succ, List.set_cons_zero]
              refine wpAnyH_done (by kernel_rfl) ?_ _
              try simp only [Act.put, List.setIfInBounds_toArray, List.set_cons_succ, List.set_cons_zero]
              replace LL := hide hq0
              clear hq0 hS0
              go_wp2_with (first | go_skip | ((with_reducible show wpList _ _ _ _ _ _); first | ((refine rd (by rfl) (ex_indexG 43 2 0 unRs idRs rfl rfl rfl (by decide)) ?_); simp only [Act.put, List.setIfInBounds_toArray, List.set_cons_succ, List.set_cons_zero]) | ((refine rd (by rfl) (ex_loadN (vs := [.int .i64 1, .func (.func 36) #[] #[]]) 50 2 rwR szR rfl rfl ((unhide LL).get 0 rfl) rfl rfl) ?_); simp only [Act.put, List.setIfInBounds_toArray, List.set_cons_succ, List.set_cons_zero]) | ((refine alG 50 ([.int .i64 0, .nilFunc]) (by rfl) rfl (fun w => by kernel_rfl) (Nat.succ_pos _) (unhide LL) ?_); intro X9 B9 hE9 L9 hb9; have hB9 := hide (Nat.le_trans (unhide LL).fr.size (Nat.le_of_eq hE9.symm)); replace LL := hide L9; clear L9 hb9 hE9; simp only [Act.put, List.setIfInBounds_toArray, List.set_cons_succ, List.set_cons_zero]) | ((refine st (vs := [.int .i64 1, .func (.func 36) #[] #[]]) 2 50 (by rfl) rfl rfl rfl rfl (by simp [Value.oneCell']) szR (unhide LL) rfl (by simp [cput]) (Or.inr (unhide hB9)) ?_); intro X5 L5 hf5 hs5; replace LL := hide L5; clear L5 hf5 hs5; simp only [Act.put, List.setIfInBounds_toArray, List.set_cons_succ, List.set_cons_zero]) | ((refine rd (by rfl) (ex_load1 48 Tryz.isAgg48 rfl rfl ((unhide LL).get 2 rfl) rfl) ?_); simp only [Act.put, List.setIfInBounds_toArray, List.set_cons_succ, List.set_cons_zero]) | ((refine rd (by rfl) (ex_loadN (vs := c.cs) 46 17 rwC szC rfl rfl ((unhide LL).get 1 rfl) rfl rfl) ?_); simp only [Act.put, List.setIfInBounds_toArray, List.set_cons_succ, List.set_cons_zero]) | ((refine rd (by rfl) (ex_lenG 43 50 Tryz.underlying43 rfl rfl) ?_); simp only [Act.put, List.setIfInBounds_toArray, List.set_cons_succ, List.set_cons_zero])))
              go_ret2
              exact ⟨(i : Int) + 1, 1, rfl, unhide HF, (unhide LL).fr.below⟩
          · go_wp2_with (first | go_skip | ((with_reducible show wpList _ _ _ _ _ _); first | ((refine rd (by rfl) (ex_indexG 43 2 1 unRs idRs rfl rfl rfl (by decide)) ?_); simp only [Act.put, List.setIfInBounds_toArray, List.set_cons_succ, List.set_cons_zero]) | ((refine rd (by rfl) (ex_loadN (vs := [.int .i64 2, .func (.func 37) #[] #[]]) 50 2 rwR szR rfl rfl ((unhide LL).get 0 rfl) rfl rfl) ?_); simp only [Act.put, List.setIfInBounds_toArray, List.set_cons_succ, List.set_cons_zero]) | ((refine alG 50 ([.int .i64 0, .nilFunc]) (by rfl) rfl (fun w => by kernel_rfl) (Nat.succ_pos _) (unhide LL) ?_); intro X9 B9 hE9 L9 hb9; have hB9 := hide (Nat.le_trans (unhide LL).fr.size (Nat.le_of_eq hE9.symm)); replace LL := hide L9; clear L9 hb9 hE9; simp only [Act.put, List.setIfInBounds_toArray, List.set_cons_succ, List.set_cons_zero]) | ((refine st (vs := [.int .i64 2, .func (.func 37) #[] #[]]) 2 50 (by rfl) rfl rfl rfl rfl (by simp [Value.oneCell']) szR (unhide LL) rfl (by simp [cput]) (Or.inr (unhide hB9)) ?_); intro X5 L5 hf5 hs5; replace LL := hide L5; clear L5 hf5 hs5; simp only [Act.put, List.setIfInBounds_toArray, List.set_cons_succ, List.set_cons_zero]) | ((refine rd (by rfl) (ex_load1 48 Tryz.isAgg48 rfl rfl ((unhide LL).get 2 rfl) rfl) ?_); simp only [Act.put, List.setIfInBounds_toArray, List.set_cons_succ, List.set_cons_zero]) | ((refine rd (by rfl) (ex_loadN (vs := c.cs) 46 17 rwC szC rfl rfl ((unhide LL).get 1 rfl) rfl rfl) ?_); simp only [Act.put, List.setIfInBounds_toArray, List.set_cons_succ, List.set_cons_zero]) | ((refine rd (by rfl) (ex_lenG 43 50 Tryz.underlying43 rfl rfl) ?_); simp only [Act.put, List.setIfInBounds_toArray, List.set_cons_succ, List.set_cons_zero])))
            have HCC := fun X => otherClass_any c X
            simp only [coagg] at HCC
            refine (HCC _).mono ?_
            clear HCC
            rintro e X6 ⟨rfl, hb6⟩
            replace LL := hide ((unhide LL).on hb6)
            clear hb6
            cases hr : rbV c 1
            · have HE2 := hide ((unhide HE).step hr)
              have e2 : clV c = false := hr
              rw [e2]
              clear hr e2 HE
              go_wp2_with (first | go_skip | ((with_reducible show wpList _ _ _ _ _ _); first | ((refine rd (by rfl) (ex_indexG 43 2 1 unRs idRs rfl rfl rfl (by decide)) ?_); simp only [Act.put, List.setIfInBounds_toArray, List.set_cons_succ, List.set_cons_zero]) | ((refine rd (by rfl) (ex_loadN (vs := [.int .i64 2, .func (.func 37) #[] #[]]) 50 2 rwR szR rfl rfl ((unhide LL).get 0 rfl) rfl rfl) ?_); simp only [Act.put, List.setIfInBounds_toArray, List.set_cons_succ, List.set_cons_zero]) | ((refine alG 50 ([.int .i64 0, .nilFunc]) (by rfl) rfl (fun w => by kernel_rfl) (Nat.succ_pos _) (unhide LL) ?_); intro X9 B9 hE9 L9 hb9; have hB9 := hide (Nat.le_trans (unhide LL).fr.size (Nat.le_of_eq hE9.symm)); replace LL := hide L9; clear L9 hb9 hE9; simp only [Act.put, List.setIfInBounds_toArray, List.set_cons_succ, List.set_cons_zero]) | ((refine st (vs := [.int .i64 2, .func (.func 37) #[] #[]]) 2 50 (by rfl) rfl rfl rfl rfl (by simp [Value.oneCell']) szR (unhide LL) rfl (by simp [cput]) (Or.inr (unhide hB9)) ?_); intro X5 L5 hf5 hs5; replace LL := hide L5; clear L5 hf5 hs5; simp only [Act.put, List.setIfInBounds_toArray, List.set_cons_succ, List.set_cons_zero]) | ((refine rd (by rfl) (ex_load1 48 Tryz.isAgg48 rfl rfl ((unhide LL).get 2 rfl) rfl) ?_); simp only [Act.put, List.setIfInBounds_toArray, List.set_cons_succ, List.set_cons_zero]) | ((refine rd (by rfl) (ex_loadN (vs := c.cs) 46 17 rwC szC rfl rfl ((unhide LL).get 1 rfl) rfl rfl) ?_); simp only [Act.put, List.setIfInBounds_toArray, List.set_cons_succ, List.set_cons_zero]) | ((refine rd (by rfl) (ex_lenG 43 50 Tryz.underlying43 rfl rfl) ?_); simp only [Act.put, List.setIfInBounds_toArray, List.set_cons_succ, List.set_cons_zero])))
              replace LL := hide (Hq.left (L := [(BR, ruleCs), (B8, c.cs)]) (unhide LL))
              go_roundg (6 - (1 + 1))
              case measure => omega
              case rel => exact ⟨1 + 1, by go_num, by omega, by omega, HE2, LL⟩
            · have HF : Hid (BrP bs ns ((i : Int) + 1) 2) := hide (.inr ⟨i, 1, unhide HLT, by decide, rfl, rfl, by rw [← unhide HS]; exact hr, fun q hq => by rw [← unhide HS]; exact (unhide HE) q hq, unhide HD⟩)
              have e2 : clV c = true := hr
              rw [e2]
              clear hr e2 HE HD
              go_wp2_with (first | go_skip | ((with_reducible show wpList _ _ _ _ _ _); first | ((refine rd (by rfl) (ex_indexG 43 2 1 unRs idRs rfl rfl rfl (by decide)) ?_); simp only [Act.put, List.setIfInBounds_toArray, List.set_cons_succ, List.set_cons_zero]) | ((refine rd (by rfl) (ex_loadN (vs := [.int .i64 2, .func (.func 37) #[] #[]]) 50 2 rwR szR rfl rfl ((unhide LL).get 0 rfl) rfl rfl) ?_); simp only [Act.put, List.setIfInBounds_toArray, List.set_cons_succ, List.set_cons_zero]) | ((refine alG 50 ([.int .i64 0, .nilFunc]) (by rfl) rfl (fun w => by kernel_rfl) (Nat.succ_pos _) (unhide LL) ?_); intro X9 B9 hE9 L9 hb9; have hB9 := hide (Nat.le_trans (unhide LL).fr.size (Nat.le_of_eq hE9.symm)); replace LL := hide L9; clear L9 hb9 hE9; simp only [Act.put, List.setIfInBounds_toArray, List.set_cons_succ, List.set_cons_zero]) | ((refine st (vs := [.int .i64 2, .func (.func 37) #[] #[]]) 2 50 (by rfl) rfl rfl rfl rfl (by simp [Value.oneCell']) szR (unhide LL) rfl (by simp [cput]) (Or.inr (unhide hB9)) ?_); intro X5 L5 hf5 hs5; replace LL := hide L5; clear L5 hf5 hs5; simp only [Act.put, List.setIfInBounds_toArray, List.set_cons_succ, List.set_cons_zero]) | ((refine rd (by rfl) (ex_load1 48 Tryz.isAgg48 rfl rfl ((unhide LL).get 2 rfl) rfl) ?_); simp only [Act.put, List.setIfInBounds_toArray, List.set_cons_succ, List.set_cons_zero]) | ((refine rd (by rfl) (ex_loadN (vs := c.cs) 46 17 rwC szC rfl rfl ((unhide LL).get 1 rfl) rfl rfl) ?_); simp only [Act.put, List.setIfInBounds_toArray, List.set_cons_succ, List.set_cons_zero]) | ((refine rd (by rfl) (ex_lenG 43 50 Tryz.underlying43 rfl rfl) ?_); simp only [Act.put, List.setIfInBounds_toArray, List.set_cons_succ, List.set_cons_zero])))
              have hq0 : Hq w _ [] [(BR, ruleCs), (B8, c.cs), (B9, [.int .i64 2, .func (.func 37) #[] #[]])] := (unhide LL).drew
              refine wp_region_held_drew (P := Tryz.prog) (S := fun X => Hq w X [] [(BR, ruleCs), (B8, c.cs), (B9, [.int .i64 2, .func (.func 37) #[] #[]])]) (by kernel_rfl) hq0 (fun hS0 => ?_)
              refine gsem 0 (some 31) (.int .i64 (i : Nat)) rfl (by kernel_rfl) (by kernel_rfl) (by kernel_rfl) (fun _ _ _ h => h) (by kernel_rfl) (by kernel_rfl) (fun _ _ => by kernel_rfl) hq0 ?_
              simp only [Act.put, List.setIfInBounds_toArray, List.set_cons_succ, List.set_cons_zero]
              refine gsem 1 (some 32) (.int .i64 ((i : Int) + 1)) rfl (by kernel_rfl) (by kernel_rfl) (by kernel_rfl) (fun _ _ _ h => h) (by kernel_rfl) (by kernel_rfl) (fun X hX => ex_addI rfl rfl rfl hw1) hq0 ?_
              simp only [Act.put, List.setIfInBounds_toArray, List.set_cons_succ, List.set_cons_zero]
              refine gsem 2 (some 33) (.pointer (some ⟨B9, 0, none⟩)) rfl (by kernel_rfl) (by kernel_rfl) (by kernel_rfl) (fun _ _ _ h => h) (by kernel_rfl) (by kernel_rfl) (fun _ _ => by kernel_rfl) hq0 ?_
              simp only [Act.put, List.setIfInBounds_toArray, List.set_cons_succ, List.set_cons_zero]
              refine gsem 3 (some 34) (.int .i64 2) rfl (by kernel_rfl) (by kernel_rfl) (by kernel_rfl) (fun _ _ _ h => h) (by kernel_rfl) (by kernel_rfl) (fun X hX => ex_load1 3 Tryz.isAgg3 rfl rfl (hX.get 2 rfl) rfl) hq0 ?_
              simp only [Act.put, List.setIfInBounds_toArray, List.set_cons_succ, List.set_cons_zero]
              refine gsem 4 (some 4) (.int .i64 ((i : Int) + 1)) rfl (by kernel_rfl) (by kernel_rfl) (by kernel_rfl) (fun _ _ _ h => h) (by kernel_rfl) (by kernel_rfl) (fun _ _ => by kernel_rfl) hq0 ?_
              simp only [Act.put, List.setIfInBounds_toArray, List.set_cons_succ, List.set_cons_zero]
              refine gsem 5 (some 5) (.int .i64 2) rfl (by kernel_rfl) (by kernel_rfl) (by kernel_rfl) (fun _ _ _ h => h) (by kernel_rfl) (by kernel_rfl) (fun _ _ => by kernel_rfl) hq0 ?_
              simp only [Act.put, List.setIfInBounds_toArray, List.set_cons_succ, List.set_cons_zero]
              refine wpAnyH_done (by kernel_rfl) ?_ _
              try simp only [Act.put, List.setIfInBounds_toArray, List.set_cons_succ, List.set_cons_zero]
              replace LL := hide hq0
              clear hq0 hS0
              go_wp2_with (first | go_skip | ((with_reducible show wpList _ _ _ _ _ _); first | ((refine rd (by rfl) (ex_indexG 43 2 1 unRs idRs rfl rfl rfl (by decide)) ?_); simp only [Act.put, List.setIfInBounds_toArray, List.set_cons_succ, List.set_cons_zero]) | ((refine rd (by rfl) (ex_loadN (vs := [.int .i64 2, .func (.func 37) #[] #[]]) 50 2 rwR szR rfl rfl ((unhide LL).get 0 rfl) rfl rfl) ?_); simp only [Act.put, List.setIfInBounds_toArray, List.set_cons_succ, List.set_cons_zero]) | ((refine alG 50 ([.int .i64 0, .nilFunc]) (by rfl) rfl (fun w => by kernel_rfl) (Nat.succ_pos _) (unhide LL) ?_); intro X9 B9 hE9 L9 hb9; have hB9 := hide (Nat.le_trans (unhide LL).fr.size (Nat.le_of_eq hE9.symm)); replace LL := hide L9; clear L9 hb9 hE9; simp only [Act.put, List.setIfInBounds_toArray, List.set_cons_succ, List.set_cons_zero]) | ((refine st (vs := [.int .i64 2, .func (.func 37) #[] #[]]) 2 50 (by rfl) rfl rfl rfl rfl (by simp [Value.oneCell']) szR (unhide LL) rfl (by simp [cput]) (Or.inr (unhide hB9)) ?_); intro X5 L5 hf5 hs5; replace LL := hide L5; clear L5 hf5 hs5; simp only [Act.put, List.setIfInBounds_toArray, List.set_cons_succ, List.set_cons_zero]) | ((refine rd (by rfl) (ex_load1 48 Tryz.isAgg48 rfl rfl ((unhide LL).get 2 rfl) rfl) ?_); simp only [Act.put, List.setIfInBounds_toArray, List.set_cons_succ, List.set_cons_zero]) | ((refine rd (by rfl) (ex_loadN (vs := c.cs) 46 17 rwC szC rfl rfl ((unhide LL).get 1 rfl) rfl rfl) ?_); simp only [Act.put, List.setIfInBounds_toArray, List.set_cons_succ, List.set_cons_zero]) | ((refine rd (by rfl) (ex_lenG 43 50 Tryz.underlying43 rfl rfl) ?_); simp only [Act.put, List.setIfInBounds_toArray, List.set_cons_succ, List.set_cons_zero])))
              go_ret2
              exact ⟨(i : Int) + 1, 2, rfl, unhide HF, (unhide LL).fr.below⟩
          · go_wp2_with (first | go_skip | ((with_reducible show wpList _ _ _ _ _ _); first | ((refine rd (by rfl) (ex_indexG 43 2 2 unRs idRs rfl rfl rfl (by decide)) ?_); simp only [Act.put, List.setIfInBounds_toArray, List.set_cons_succ, List.set_cons_zero]) | ((refine rd (by rfl) (ex_loadN (vs := [.int .i64 3, .func (.func 38) #[] #[]]) 50 2 rwR szR rfl rfl ((unhide LL).get 0 rfl) rfl rfl) ?_); simp only [Act.put, List.setIfInBounds_toArray, List.set_cons_succ, List.set_cons_zero]) | ((refine alG 50 ([.int .i64 0, .nilFunc]) (by rfl) rfl (fun w => by kernel_rfl) (Nat.succ_pos _) (unhide LL) ?_); intro X9 B9 hE9 L9 hb9; have hB9 := hide (Nat.le_trans (unhide LL).fr.size (Nat.le_of_eq hE9.symm)); replace LL := hide L9; clear L9 hb9 hE9; simp only [Act.put, List.setIfInBounds_toArray, List.set_cons_succ, List.set_cons_zero]) | ((refine st (vs := [.int .i64 3, .func (.func 38) #[] #[]]) 2 50 (by rfl) rfl rfl rfl rfl (by simp [Value.oneCell']) szR (unhide LL) rfl (by simp [cput]) (Or.inr (unhide hB9)) ?_); intro X5 L5 hf5 hs5; replace LL := hide L5; clear L5 hf5 hs5; simp only [Act.put, List.setIfInBounds_toArray, List.set_cons_succ, List.set_cons_zero]) | ((refine rd (by rfl) (ex_load1 48 Tryz.isAgg48 rfl rfl ((unhide LL).get 2 rfl) rfl) ?_); simp only [Act.put, List.setIfInBounds_toArray, List.set_cons_succ, List.set_cons_zero]) | ((refine rd (by rfl) (ex_loadN (vs := c.cs) 46 17 rwC szC rfl rfl ((unhide LL).get 1 rfl) rfl rfl) ?_); simp only [Act.put, List.setIfInBounds_toArray, List.set_cons_succ, List.set_cons_zero]) | ((refine rd (by rfl) (ex_lenG 43 50 Tryz.underlying43 rfl rfl) ?_); simp only [Act.put, List.setIfInBounds_toArray, List.set_cons_succ, List.set_cons_zero])))
            have HCC := fun X => openAgain_any c X
            simp only [coagg] at HCC
            refine (HCC _).mono ?_
            clear HCC
            rintro e X6 ⟨rfl, hb6⟩
            replace LL := hide ((unhide LL).on hb6)
            clear hb6
            cases hr : rbV c 2
            · have HE2 := hide ((unhide HE).step hr)
              have e2 : oaV c = false := hr
              rw [e2]
              clear hr e2 HE
              go_wp2_with (first | go_skip | ((with_reducible show wpList _ _ _ _ _ _); first | ((refine rd (by rfl) (ex_indexG 43 2 2 unRs idRs rfl rfl rfl (by decide)) ?_); simp only [Act.put, List.setIfInBounds_toArray, List.set_cons_succ, List.set_cons_zero]) | ((refine rd (by rfl) (ex_loadN (vs := [.int .i64 3, .func (.func 38) #[] #[]]) 50 2 rwR szR rfl rfl ((unhide LL).get 0 rfl) rfl rfl) ?_); simp only [Act.put, List.setIfInBounds_toArray, List.set_cons_succ, List.set_cons_zero]) | ((refine alG 50 ([.int .i64 0, .nilFunc]) (by rfl) rfl (fun w => by kernel_rfl) (Nat.succ_pos _) (unhide LL) ?_); intro X9 B9 hE9 L9 hb9; have hB9 := hide (Nat.le_trans (unhide LL).fr.size (Nat.le_of_eq hE9.symm)); replace LL := hide L9; clear L9 hb9 hE9; simp only [Act.put, List.setIfInBounds_toArray, List.set_cons_succ, List.set_cons_zero]) | ((refine st (vs := [.int .i64 3, .func (.func 38) #[] #[]]) 2 50 (by rfl) rfl rfl rfl rfl (by simp [Value.oneCell']) szR (unhide LL) rfl (by simp [cput]) (Or.inr (unhide hB9)) ?_); intro X5 L5 hf5 hs5; replace LL := hide L5; clear L5 hf5 hs5; simp only [Act.put, List.setIfInBounds_toArray, List.set_cons_succ, List.set_cons_zero]) | ((refine rd (by rfl) (ex_load1 48 Tryz.isAgg48 rfl rfl ((unhide LL).get 2 rfl) rfl) ?_); simp only [Act.put, List.setIfInBounds_toArray, List.set_cons_succ, List.set_cons_zero]) | ((refine rd (by rfl) (ex_loadN (vs := c.cs) 46 17 rwC szC rfl rfl ((unhide LL).get 1 rfl) rfl rfl) ?_); simp only [Act.put, List.setIfInBounds_toArray, List.set_cons_succ, List.set_cons_zero]) | ((refine rd (by rfl) (ex_lenG 43 50 Tryz.underlying43 rfl rfl) ?_); simp only [Act.put, List.setIfInBounds_toArray, List.set_cons_succ, List.set_cons_zero])))
              replace LL := hide (Hq.left (L := [(BR, ruleCs), (B8, c.cs)]) (unhide LL))
              go_roundg (6 - (2 + 1))
              case measure => omega
              case rel => exact ⟨2 + 1, by go_num, by omega, by omega, HE2, LL⟩
            · have HF : Hid (BrP bs ns ((i : Int) + 1) 3) := hide (.inr ⟨i, 2, unhide HLT, by decide, rfl, rfl, by rw [← unhide HS]; exact hr, fun q hq => by rw [← unhide HS]; exact (unhide HE) q hq, unhide HD⟩)
              have e2 : oaV c = true := hr
              rw [e2]
              clear hr e2 HE HD
              go_wp2_with (first | go_skip | ((with_reducible show wpList _ _ _ _ _ _); first | ((refine rd (by rfl) (ex_indexG 43 2 2 unRs idRs rfl rfl rfl (by decide)) ?_); simp only [Act.put, List.setIfInBounds_toArray, List.set_cons_succ, List.set_cons_zero]) | ((refine rd (by rfl) (ex_loadN (vs := [.int .i64 3, .func (.func 38) #[] #[]]) 50 2 rwR szR rfl rfl ((unhide LL).get 0 rfl) rfl rfl) ?_); simp only [Act.put, List.setIfInBounds_toArray, List.set_cons_succ, List.set_cons_zero]) | ((refine alG 50 ([.int .i64 0, .nilFunc]) (by rfl) rfl (fun w => by kernel_rfl) (Nat.succ_pos _) (unhide LL) ?_); intro X9 B9 hE9 L9 hb9; have hB9 := hide (Nat.le_trans (unhide LL).fr.size (Nat.le_of_eq hE9.symm)); replace LL := hide L9; clear L9 hb9 hE9; simp only [Act.put, List.setIfInBounds_toArray, List.set_cons_succ, List.set_cons_zero]) | ((refine st (vs := [.int .i64 3, .func (.func 38) #[] #[]]) 2 50 (by rfl) rfl rfl rfl rfl (by simp [Value.oneCell']) szR (unhide LL) rfl (by simp [cput]) (Or.inr (unhide hB9)) ?_); intro X5 L5 hf5 hs5; replace LL := hide L5; clear L5 hf5 hs5; simp only [Act.put, List.setIfInBounds_toArray, List.set_cons_succ, List.set_cons_zero]) | ((refine rd (by rfl) (ex_load1 48 Tryz.isAgg48 rfl rfl ((unhide LL).get 2 rfl) rfl) ?_); simp only [Act.put, List.setIfInBounds_toArray, List.set_cons_succ, List.set_cons_zero]) | ((refine rd (by rfl) (ex_loadN (vs := c.cs) 46 17 rwC szC rfl rfl ((unhide LL).get 1 rfl) rfl rfl) ?_); simp only [Act.put, List.setIfInBounds_toArray, List.set_cons_succ, List.set_cons_zero]) | ((refine rd (by rfl) (ex_lenG 43 50 Tryz.underlying43 rfl rfl) ?_); simp only [Act.put, List.setIfInBounds_toArray, List.set_cons_succ, List.set_cons_zero])))
              have hq0 : Hq w _ [] [(BR, ruleCs), (B8, c.cs), (B9, [.int .i64 3, .func (.func 38) #[] #[]])] := (unhide LL).drew
              refine wp_region_held_drew (P := Tryz.prog) (S := fun X => Hq w X [] [(BR, ruleCs), (B8, c.cs), (B9, [.int .i64 3, .func (.func 38) #[] #[]])]) (by kernel_rfl) hq0 (fun hS0 => ?_)
              refine gsem 0 (some 31) (.int .i64 (i : Nat)) rfl (by kernel_rfl) (by kernel_rfl) (by kernel_rfl) (fun _ _ _ h => h) (by kernel_rfl) (by kernel_rfl) (fun _ _ => by kernel_rfl) hq0 ?_
              simp only [Act.put, List.setIfInBounds_toArray, List.set_cons_succ, List.set_cons_zero]
              refine gsem 1 (some 32) (.int .i64 ((i : Int) + 1)) rfl (by kernel_rfl) (by kernel_rfl) (by kernel_rfl) (fun _ _ _ h => h) (by kernel_rfl) (by kernel_rfl) (fun X hX => ex_addI rfl rfl rfl hw1) hq0 ?_
              simp only [Act.put, List.setIfInBounds_toArray, List.set_cons_succ, List.set_cons_zero]
              refine gsem 2 (some 33) (.pointer (some ⟨B9, 0, none⟩)) rfl (by kernel_rfl) (by kernel_rfl) (by kernel_rfl) (fun _ _ _ h => h) (by kernel_rfl) (by kernel_rfl) (fun _ _ => by kernel_rfl) hq0 ?_
              simp only [Act.put, List.setIfInBounds_toArray, List.set_cons_succ, List.set_cons_zero]
              refine gsem 3 (some 34) (.int .i64 3) rfl (by kernel_rfl) (by kernel_rfl) (by kernel_rfl) (fun _ _ _ h => h) (by kernel_rfl) (by kernel_rfl) (fun X hX => ex_load1 3 Tryz.isAgg3 rfl rfl (hX.get 2 rfl) rfl) hq0 ?_
              simp only [Act.put, List.setIfInBounds_toArray, List.set_cons_succ, List.set_cons_zero]
              refine gsem 4 (some 4) (.int .i64 ((i : Int) + 1)) rfl (by kernel_rfl) (by kernel_rfl) (by kernel_rfl) (fun _ _ _ h => h) (by kernel_rfl) (by kernel_rfl) (fun _ _ => by kernel_rfl) hq0 ?_
              simp only [Act.put, List.setIfInBounds_toArray, List.set_cons_succ, List.set_cons_zero]
              refine gsem 5 (some 5) (.int .i64 3) rfl (by kernel_rfl) (by kernel_rfl) (by kernel_rfl) (fun _ _ _ h => h) (by kernel_rfl) (by kernel_rfl) (fun _ _ => by kernel_rfl) hq0 ?_
              simp only [Act.put, List.setIfInBounds_toArray, List.set_cons_succ, List.set_cons_zero]
              refine wpAnyH_done (by kernel_rfl) ?_ _
              try simp only [Act.put, List.setIfInBounds_toArray, List.set_cons_succ, List.set_cons_zero]
              replace LL := hide hq0
              clear hq0 hS0
              go_wp2_with (first | go_skip | ((with_reducible show wpList _ _ _ _ _ _); first | ((refine rd (by rfl) (ex_indexG 43 2 2 unRs idRs rfl rfl rfl (by decide)) ?_); simp only [Act.put, List.setIfInBounds_toArray, List.set_cons_succ, List.set_cons_zero]) | ((refine rd (by rfl) (ex_loadN (vs := [.int .i64 3, .func (.func 38) #[] #[]]) 50 2 rwR szR rfl rfl ((unhide LL).get 0 rfl) rfl rfl) ?_); simp only [Act.put, List.setIfInBounds_toArray, List.set_cons_succ, List.set_cons_zero]) | ((refine alG 50 ([.int .i64 0, .nilFunc]) (by rfl) rfl (fun w => by kernel_rfl) (Nat.succ_pos _) (unhide LL) ?_); intro X9 B9 hE9 L9 hb9; have hB9 := hide (Nat.le_trans (unhide LL).fr.size (Nat.le_of_eq hE9.symm)); replace LL := hide L9; clear L9 hb9 hE9; simp only [Act.put, List.setIfInBounds_toArray, List.set_cons_succ, List.set_cons_zero]) | ((refine st (vs := [.int .i64 3, .func (.func 38) #[] #[]]) 2 50 (by rfl) rfl rfl rfl rfl (by simp [Value.oneCell']) szR (unhide LL) rfl (by simp [cput]) (Or.inr (unhide hB9)) ?_); intro X5 L5 hf5 hs5; replace LL := hide L5; clear L5 hf5 hs5; simp only [Act.put, List.setIfInBounds_toArray, List.set_cons_succ, List.set_cons_zero]) | ((refine rd (by rfl) (ex_load1 48 Tryz.isAgg48 rfl rfl ((unhide LL).get 2 rfl) rfl) ?_); simp only [Act.put, List.setIfInBounds_toArray, List.set_cons_succ, List.set_cons_zero]) | ((refine rd (by rfl) (ex_loadN (vs := c.cs) 46 17 rwC szC rfl rfl ((unhide LL).get 1 rfl) rfl rfl) ?_); simp only [Act.put, List.setIfInBounds_toArray, List.set_cons_succ, List.set_cons_zero]) | ((refine rd (by rfl) (ex_lenG 43 50 Tryz.underlying43 rfl rfl) ?_); simp only [Act.put, List.setIfInBounds_toArray, List.set_cons_succ, List.set_cons_zero])))
              go_ret2
              exact ⟨(i : Int) + 1, 3, rfl, unhide HF, (unhide LL).fr.below⟩
          · go_wp2_with (first | go_skip | ((with_reducible show wpList _ _ _ _ _ _); first | ((refine rd (by rfl) (ex_indexG 43 2 3 unRs idRs rfl rfl rfl (by decide)) ?_); simp only [Act.put, List.setIfInBounds_toArray, List.set_cons_succ, List.set_cons_zero]) | ((refine rd (by rfl) (ex_loadN (vs := [.int .i64 4, .func (.func 39) #[] #[]]) 50 2 rwR szR rfl rfl ((unhide LL).get 0 rfl) rfl rfl) ?_); simp only [Act.put, List.setIfInBounds_toArray, List.set_cons_succ, List.set_cons_zero]) | ((refine alG 50 ([.int .i64 0, .nilFunc]) (by rfl) rfl (fun w => by kernel_rfl) (Nat.succ_pos _) (unhide LL) ?_); intro X9 B9 hE9 L9 hb9; have hB9 := hide (Nat.le_trans (unhide LL).fr.size (Nat.le_of_eq hE9.symm)); replace LL := hide L9; clear L9 hb9 hE9; simp only [Act.put, List.setIfInBounds_toArray, List.set_cons_succ, List.set_cons_zero]) | ((refine st (vs := [.int .i64 4, .func (.func 39) #[] #[]]) 2 50 (by rfl) rfl rfl rfl rfl (by simp [Value.oneCell']) szR (unhide LL) rfl (by simp [cput]) (Or.inr (unhide hB9)) ?_); intro X5 L5 hf5 hs5; replace LL := hide L5; clear L5 hf5 hs5; simp only [Act.put, List.setIfInBounds_toArray, List.set_cons_succ, List.set_cons_zero]) | ((refine rd (by rfl) (ex_load1 48 Tryz.isAgg48 rfl rfl ((unhide LL).get 2 rfl) rfl) ?_); simp only [Act.put, List.setIfInBounds_toArray, List.set_cons_succ, List.set_cons_zero]) | ((refine rd (by rfl) (ex_loadN (vs := c.cs) 46 17 rwC szC rfl rfl ((unhide LL).get 1 rfl) rfl rfl) ?_); simp only [Act.put, List.setIfInBounds_toArray, List.set_cons_succ, List.set_cons_zero]) | ((refine rd (by rfl) (ex_lenG 43 50 Tryz.underlying43 rfl rfl) ?_); simp only [Act.put, List.setIfInBounds_toArray, List.set_cons_succ, List.set_cons_zero])))
            have HCC := fun X hT => otherProto_any c X hT
            simp only [coagg] at HCC
            refine (HCC _ (tabs_below (unhide HT) (unhide LL).fr.below)).mono ?_
            clear HCC
            rintro e X6 ⟨rfl, hb6⟩
            replace LL := hide ((unhide LL).on hb6)
            clear hb6
            cases hr : rbV c 3
            · have HE2 := hide ((unhide HE).step hr)
              have e2 : opV c = false := hr
              rw [e2]
              clear hr e2 HE
              go_wp2_with (first | go_skip | ((with_reducible show wpList _ _ _ _ _ _); first | ((refine rd (by rfl) (ex_indexG 43 2 3 unRs idRs rfl rfl rfl (by decide)) ?_); simp only [Act.put, List.setIfInBounds_toArray, List.set_cons_succ, List.set_cons_zero]) | ((refine rd (by rfl) (ex_loadN (vs := [.int .i64 4, .func (.func 39) #[] #[]]) 50 2 rwR szR rfl rfl ((unhide LL).get 0 rfl) rfl rfl) ?_); simp only [Act.put, List.setIfInBounds_toArray, List.set_cons_succ, List.set_cons_zero]) | ((refine alG 50 ([.int .i64 0, .nilFunc]) (by rfl) rfl (fun w => by kernel_rfl) (Nat.succ_pos _) (unhide LL) ?_); intro X9 B9 hE9 L9 hb9; have hB9 := hide (Nat.le_trans (unhide LL).fr.size (Nat.le_of_eq hE9.symm)); replace LL := hide L9; clear L9 hb9 hE9; simp only [Act.put, List.setIfInBounds_toArray, List.set_cons_succ, List.set_cons_zero]) | ((refine st (vs := [.int .i64 4, .func (.func 39) #[] #[]]) 2 50 (by rfl) rfl rfl rfl rfl (by simp [Value.oneCell']) szR (unhide LL) rfl (by simp [cput]) (Or.inr (unhide hB9)) ?_); intro X5 L5 hf5 hs5; replace LL := hide L5; clear L5 hf5 hs5; simp only [Act.put, List.setIfInBounds_toArray, List.set_cons_succ, List.set_cons_zero]) | ((refine rd (by rfl) (ex_load1 48 Tryz.isAgg48 rfl rfl ((unhide LL).get 2 rfl) rfl) ?_); simp only [Act.put, List.setIfInBounds_toArray, List.set_cons_succ, List.set_cons_zero]) | ((refine rd (by rfl) (ex_loadN (vs := c.cs) 46 17 rwC szC rfl rfl ((unhide LL).get 1 rfl) rfl rfl) ?_); simp only [Act.put, List.setIfInBounds_toArray, List.set_cons_succ, List.set_cons_zero]) | ((refine rd (by rfl) (ex_lenG 43 50 Tryz.underlying43 rfl rfl) ?_); simp only [Act.put, List.setIfInBounds_toArray, List.set_cons_succ, List.set_cons_zero])))
              replace LL := hide (Hq.left (L := [(BR, ruleCs), (B8, c.cs)]) (unhide LL))
              go_roundg (6 - (3 + 1))
              case measure => omega
              case rel => exact ⟨3 + 1, by go_num, by omega, by omega, HE2, LL⟩
            · have HF : Hid (BrP bs ns ((i : Int) + 1) 4) := hide (.inr ⟨i, 3, unhide HLT, by decide, rfl, rfl, by rw [← unhide HS]; exact hr, fun q hq => by rw [← unhide HS]; exact (unhide HE) q hq, unhide HD⟩)
              have e2 : opV c = true := hr
              rw [e2]
              clear hr e2 HE HD
              go_wp2_with (first | go_skip | ((with_reducible show wpList _ _ _ _ _ _); first | ((refine rd (by rfl) (ex_indexG 43 2 3 unRs idRs rfl rfl rfl (by decide)) ?_); simp only [Act.put, List.setIfInBounds_toArray, List.set_cons_succ, List.set_cons_zero]) | ((refine rd (by rfl) (ex_loadN (vs := [.int .i64 4, .func (.func 39) #[] #[]]) 50 2 rwR szR rfl rfl ((unhide LL).get 0 rfl) rfl rfl) ?_); simp only [Act.put, List.setIfInBounds_toArray, List.set_cons_succ, List.set_cons_zero]) | ((refine alG 50 ([.int .i64 0, .nilFunc]) (by rfl) rfl (fun w => by kernel_rfl) (Nat.succ_pos _) (unhide LL) ?_); intro X9 B9 hE9 L9 hb9; have hB9 := hide (Nat.le_trans (unhide LL).fr.size (Nat.le_of_eq hE9.symm)); replace LL := hide L9; clear L9 hb9 hE9; simp only [Act.put, List.setIfInBounds_toArray, List.set_cons_succ, List.set_cons_zero]) | ((refine st (vs := [.int .i64 4, .func (.func 39) #[] #[]]) 2 50 (by rfl) rfl rfl rfl rfl (by simp [Value.oneCell']) szR (unhide LL) rfl (by simp [cput]) (Or.inr (unhide hB9)) ?_); intro X5 L5 hf5 hs5; replace LL := hide L5; clear L5 hf5 hs5; simp only [Act.put, List.setIfInBounds_toArray, List.set_cons_succ, List.set_cons_zero]) | ((refine rd (by rfl) (ex_load1 48 Tryz.isAgg48 rfl rfl ((unhide LL).get 2 rfl) rfl) ?_); simp only [Act.put, List.setIfInBounds_toArray, List.set_cons_succ, List.set_cons_zero]) | ((refine rd (by rfl) (ex_loadN (vs := c.cs) 46 17 rwC szC rfl rfl ((unhide LL).get 1 rfl) rfl rfl) ?_); simp only [Act.put, List.setIfInBounds_toArray, List.set_cons_succ, List.set_cons_zero]) | ((refine rd (by rfl) (ex_lenG 43 50 Tryz.underlying43 rfl rfl) ?_); simp only [Act.put, List.setIfInBounds_toArray, List.set_cons_succ, List.set_cons_zero])))
              have hq0 : Hq w _ [] [(BR, ruleCs), (B8, c.cs), (B9, [.int .i64 4, .func (.func 39) #[] #[]])] := (unhide LL).drew
              refine wp_region_held_drew (P := Tryz.prog) (S := fun X => Hq w X [] [(BR, ruleCs), (B8, c.cs), (B9, [.int .i64 4, .func (.func 39) #[] #[]])]) (by kernel_rfl) hq0 (fun hS0 => ?_)
              refine gsem 0 (some 31) (.int .i64 (i : Nat)) rfl (by kernel_rfl) (by kernel_rfl) (by kernel_rfl) (fun _ _ _ h => h) (by kernel_rfl) (by kernel_rfl) (fun _ _ => by kernel_rfl) hq0 ?_
              simp only [Act.put, List.setIfInBounds_toArray, List.set_cons_succ, List.set_cons_zero]
              refine gsem 1 (some 32) (.int .i64 ((i : Int) + 1)) rfl (by kernel_rfl) (by kernel_rfl) (by kernel_rfl) (fun _ _ _ h => h) (by kernel_rfl) (by kernel_rfl) (fun X hX => ex_addI rfl rfl rfl hw1) hq0 ?_
              simp only [Act.put, List.setIfInBounds_toArray, List.set_cons_succ, List.set_cons_zero]
              refine gsem 2 (some 33) (.pointer (some ⟨B9, 0, none⟩)) rfl (by kernel_rfl) (by kernel_rfl) (by kernel_rfl) (fun _ _ _ h => h) (by kernel_rfl) (by kernel_rfl) (fun _ _ => by kernel_rfl) hq0 ?_
              simp only [Act.put, List.setIfInBounds_toArray, List.set_cons_succ, List.set_cons_zero]
              refine gsem 3 (some 34) (.int .i64 4) rfl (by kernel_rfl) (by kernel_rfl) (by kernel_rfl) (fun _ _ _ h => h) (by kernel_rfl) (by kernel_rfl) (fun X hX => ex_load1 3 Tryz.isAgg3 rfl rfl (hX.get 2 rfl) rfl) hq0 ?_
              simp only [Act.put, List.setIfInBounds_toArray, List.set_cons_succ, List.set_cons_zero]
              refine gsem 4 (some 4) (.int .i64 ((i : Int) + 1)) rfl (by kernel_rfl) (by kernel_rfl) (by kernel_rfl) (fun _ _ _ h => h) (by kernel_rfl) (by kernel_rfl) (fun _ _ => by kernel_rfl) hq0 ?_
              simp only [Act.put, List.setIfInBounds_toArray, List.set_cons_succ, List.set_cons_zero]
              refine gsem 5 (some 5) (.int .i64 4) rfl (by kernel_rfl) (by kernel_rfl) (by kernel_rfl) (fun _ _ _ h => h) (by kernel_rfl) (by kernel_rfl) (fun _ _ => by kernel_rfl) hq0 ?_
              simp only [Act.put, List.setIfInBounds_toArray, List.set_cons_succ, List.set_cons_zero]
              refine wpAnyH_done (by kernel_rfl) ?_ _
              try simp only [Act.put, List.setIfInBounds_toArray, List.set_cons_succ, List.set_cons_zero]
              replace LL := hide hq0
              clear hq0 hS0
              go_wp2_with (first | go_skip | ((with_reducible show wpList _ _ _ _ _ _); first | ((refine rd (by rfl) (ex_indexG 43 2 3 unRs idRs rfl rfl rfl (by decide)) ?_); simp only [Act.put, List.setIfInBounds_toArray, List.set_cons_succ, List.set_cons_zero]) | ((refine rd (by rfl) (ex_loadN (vs := [.int .i64 4, .func (.func 39) #[] #[]]) 50 2 rwR szR rfl rfl ((unhide LL).get 0 rfl) rfl rfl) ?_); simp only [Act.put, List.setIfInBounds_toArray, List.set_cons_succ, List.set_cons_zero]) | ((refine alG 50 ([.int .i64 0, .nilFunc]) (by rfl) rfl (fun w => by kernel_rfl) (Nat.succ_pos _) (unhide LL) ?_); intro X9 B9 hE9 L9 hb9; have hB9 := hide (Nat.le_trans (unhide LL).fr.size (Nat.le_of_eq hE9.symm)); replace LL := hide L9; clear L9 hb9 hE9; simp only [Act.put, List.setIfInBounds_toArray, List.set_cons_succ, List.set_cons_zero]) | ((refine st (vs := [.int .i64 4, .func (.func 39) #[] #[]]) 2 50 (by rfl) rfl rfl rfl rfl (by simp [Value.oneCell']) szR (unhide LL) rfl (by simp [cput]) (Or.inr (unhide hB9)) ?_); intro X5 L5 hf5 hs5; replace LL := hide L5; clear L5 hf5 hs5; simp only [Act.put, List.setIfInBounds_toArray, List.set_cons_succ, List.set_cons_zero]) | ((refine rd (by rfl) (ex_load1 48 Tryz.isAgg48 rfl rfl ((unhide LL).get 2 rfl) rfl) ?_); simp only [Act.put, List.setIfInBounds_toArray, List.set_cons_succ, List.set_cons_zero]) | ((refine rd (by rfl) (ex_loadN (vs := c.cs) 46 17 rwC szC rfl rfl ((unhide LL).get 1 rfl) rfl rfl) ?_); simp only [Act.put, List.setIfInBounds_toArray, List.set_cons_succ, List.set_cons_zero]) | ((refine rd (by rfl) (ex_lenG 43 50 Tryz.underlying43 rfl rfl) ?_); simp only [Act.put, List.setIfInBounds_toArray, List.set_cons_succ, List.set_cons_zero])))
              go_ret2
              exact ⟨(i : Int) + 1, 4, rfl, unhide HF, (unhide LL).fr.below⟩
          · go_wp2_with (first | go_skip | ((with_reducible show wpList _ _ _ _ _ _); first | ((refine rd (by rfl) (ex_indexG 43 2 4 unRs idRs rfl rfl rfl (by decide)) ?_); simp only [Act.put, List.setIfInBounds_toArray, List.set_cons_succ, List.set_cons_zero]) | ((refine rd (by rfl) (ex_loadN (vs := [.int .i64 5, .func (.func 40) #[] #[]]) 50 2 rwR szR rfl rfl ((unhide LL).get 0 rfl) rfl rfl) ?_); simp only [Act.put, List.setIfInBounds_toArray, List.set_cons_succ, List.set_cons_zero]) | ((refine alG 50 ([.int .i64 0, .nilFunc]) (by rfl) rfl (fun w => by kernel_rfl) (Nat.succ_pos _) (unhide LL) ?_); intro X9 B9 hE9 L9 hb9; have hB9 := hide (Nat.le_trans (unhide LL).fr.size (Nat.le_of_eq hE9.symm)); replace LL := hide L9; clear L9 hb9 hE9; simp only [Act.put, List.setIfInBounds_toArray, List.set_cons_succ, List.set_cons_zero]) | ((refine st (vs := [.int .i64 5, .func (.func 40) #[] #[]]) 2 50 (by rfl) rfl rfl rfl rfl (by simp [Value.oneCell']) szR (unhide LL) rfl (by simp [cput]) (Or.inr (unhide hB9)) ?_); intro X5 L5 hf5 hs5; replace LL := hide L5; clear L5 hf5 hs5; simp only [Act.put, List.setIfInBounds_toArray, List.set_cons_succ, List.set_cons_zero]) | ((refine rd (by rfl) (ex_load1 48 Tryz.isAgg48 rfl rfl ((unhide LL).get 2 rfl) rfl) ?_); simp only [Act.put, List.setIfInBounds_toArray, List.set_cons_succ, List.set_cons_zero]) | ((refine rd (by rfl) (ex_loadN (vs := c.cs) 46 17 rwC szC rfl rfl ((unhide LL).get 1 rfl) rfl rfl) ?_); simp only [Act.put, List.setIfInBounds_toArray, List.set_cons_succ, List.set_cons_zero]) | ((refine rd (by rfl) (ex_lenG 43 50 Tryz.underlying43 rfl rfl) ?_); simp only [Act.put, List.setIfInBounds_toArray, List.set_cons_succ, List.set_cons_zero])))
            have HCC := fun X h1 h2 => moreKeys_any c X h1 h2 (unhide HX).2.2.1 (unhide HX).2.2.2
            simp only [coagg] at HCC
            refine (HCC _ ((unhide HX).1.fr (unhide LL).fr) ((unhide HX).2.1.fr (unhide LL).fr)).mono ?_
            clear HCC
            rintro e X6 ⟨rfl, hb6⟩
            replace LL := hide ((unhide LL).on hb6)
            clear hb6
            cases hr : rbV c 4
            · have HE2 := hide ((unhide HE).step hr)
              have e2 : mkV c = false := hr
              rw [e2]
              clear hr e2 HE
              go_wp2_with (first | go_skip | ((with_reducible show wpList _ _ _ _ _ _); first | ((refine rd (by rfl) (ex_indexG 43 2 4 unRs idRs rfl rfl rfl (by decide)) ?_); simp only [Act.put, List.setIfInBounds_toArray, List.set_cons_succ, List.set_cons_zero]) | ((refine rd (by rfl) (ex_loadN (vs := [.int .i64 5, .func (.func 40) #[] #[]]) 50 2 rwR szR rfl rfl ((unhide LL).get 0 rfl) rfl rfl) ?_); simp only [Act.put, List.setIfInBounds_toArray, List.set_cons_succ, List.set_cons_zero]) | ((refine alG 50 ([.int .i64 0, .nilFunc]) (by rfl) rfl (fun w => by kernel_rfl) (Nat.succ_pos _) (unhide LL) ?_); intro X9 B9 hE9 L9 hb9; have hB9 := hide (Nat.le_trans (unhide LL).fr.size (Nat.le_of_eq hE9.symm)); replace LL := hide L9; clear L9 hb9 hE9; simp only [Act.put, List.setIfInBounds_toArray, List.set_cons_succ, List.set_cons_zero]) | ((refine st (vs := [.int .i64 5, .func (.func 40) #[] #[]]) 2 50 (by rfl) rfl rfl rfl rfl (by simp [Value.oneCell']) szR (unhide LL) rfl (by simp [cput]) (Or.inr (unhide hB9)) ?_); intro X5 L5 hf5 hs5; replace LL := hide L5; clear L5 hf5 hs5; simp only [Act.put, List.setIfInBounds_toArray, List.set_cons_succ, List.set_cons_zero]) | ((refine rd (by rfl) (ex_load1 48 Tryz.isAgg48 rfl rfl ((unhide LL).get 2 rfl) rfl) ?_); simp only [Act.put, List.setIfInBounds_toArray, List.set_cons_succ, List.set_cons_zero]) | ((refine rd (by rfl) (ex_loadN (vs := c.cs) 46 17 rwC szC rfl rfl ((unhide LL).get 1 rfl) rfl rfl) ?_); simp only [Act.put, List.setIfInBounds_toArray, List.set_cons_succ, List.set_cons_zero]) | ((refine rd (by rfl) (ex_lenG 43 50 Tryz.underlying43 rfl rfl) ?_); simp only [Act.put, List.setIfInBounds_toArray, List.set_cons_succ, List.set_cons_zero])))
              replace LL := hide (Hq.left (L := [(BR, ruleCs), (B8, c.cs)]) (unhide LL))
              go_roundg (6 - (4 + 1))
              case measure => omega
              case rel => exact ⟨4 + 1, by go_num, by omega, by omega, HE2, LL⟩
            · have HF : Hid (BrP bs ns ((i : Int) + 1) 5) := hide (.inr ⟨i, 4, unhide HLT, by decide, rfl, rfl, by rw [← unhide HS]; exact hr, fun q hq => by rw [← unhide HS]; exact (unhide HE) q hq, unhide HD⟩)
              have e2 : mkV c = true := hr
              rw [e2]
              clear hr e2 HE HD
              go_wp2_with (first | go_skip | ((with_reducible show wpList _ _ _ _ _ _); first | ((refine rd (by rfl) (ex_indexG 43 2 4 unRs idRs rfl rfl rfl (by decide)) ?_); simp only [Act.put, List.setIfInBounds_toArray, List.set_cons_succ, List.set_cons_zero]) | ((refine rd (by rfl) (ex_loadN (vs := [.int .i64 5, .func (.func 40) #[] #[]]) 50 2 rwR szR rfl rfl ((unhide LL).get 0 rfl) rfl rfl) ?_); simp only [Act.put, List.setIfInBounds_toArray, List.set_cons_succ, List.set_cons_zero]) | ((refine alG 50 ([.int .i64 0, .nilFunc]) (by rfl) rfl (fun w => by kernel_rfl) (Nat.succ_pos _) (unhide LL) ?_); intro X9 B9 hE9 L9 hb9; have hB9 := hide (Nat.le_trans (unhide LL).fr.size (Nat.le_of_eq hE9.symm)); replace LL := hide L9; clear L9 hb9 hE9; simp only [Act.put, List.setIfInBounds_toArray, List.set_cons_succ, List.set_cons_zero]) | ((refine st (vs := [.int .i64 5, .func (.func 40) #[] #[]]) 2 50 (by rfl) rfl rfl rfl rfl (by simp [Value.oneCell']) szR (unhide LL) rfl (by simp [cput]) (Or.inr (unhide hB9)) ?_); intro X5 L5 hf5 hs5; replace LL := hide L5; clear L5 hf5 hs5; simp only [Act.put, List.setIfInBounds_toArray, List.set_cons_succ, List.set_cons_zero]) | ((refine rd (by rfl) (ex_load1 48 Tryz.isAgg48 rfl rfl ((unhide LL).get 2 rfl) rfl) ?_); simp only [Act.put, List.setIfInBounds_toArray, List.set_cons_succ, List.set_cons_zero]) | ((refine rd (by rfl) (ex_loadN (vs := c.cs) 46 17 rwC szC rfl rfl ((unhide LL).get 1 rfl) rfl rfl) ?_); simp only [Act.put, List.setIfInBounds_toArray, List.set_cons_succ, List.set_cons_zero]) | ((refine rd (by rfl) (ex_lenG 43 50 Tryz.underlying43 rfl rfl) ?_); simp only [Act.put, List.setIfInBounds_toArray, List.set_cons_succ, List.set_cons_zero])))
              have hq0 : Hq w _ [] [(BR, ruleCs), (B8, c.cs), (B9, [.int .i64 5, .func (.func 40) #[] #[]])] := (unhide LL).drew
              refine wp_region_held_drew (P := Tryz.prog) (S := fun X => Hq w X [] [(BR, ruleCs), (B8, c.cs), (B9, [.int .i64 5, .func (.func 40) #[] #[]])]) (by kernel_rfl) hq0 (fun hS0 => ?_)
              refine gsem 0 (some 31) (.int .i64 (i : Nat)) rfl (by kernel_rfl) (by kernel_rfl) (by kernel_rfl) (fun _ _ _ h => h) (by kernel_rfl) (by kernel_rfl) (fun _ _ => by kernel_rfl) hq0 ?_
              simp only [Act.put, List.setIfInBounds_toArray, List.set_cons_succ, List.set_cons_zero]
              refine gsem 1 (some 32) (.int .i64 ((i : Int) + 1)) rfl (by kernel_rfl) (by kernel_rfl) (by kernel_rfl) (fun _ _ _ h => h) (by kernel_rfl) (by kernel_rfl) (fun X hX => ex_addI rfl rfl rfl hw1) hq0 ?_
              simp only [Act.put, List.setIfInBounds_toArray, List.set_cons_succ, List.set_cons_zero]
              refine gsem 2 (some 33) (.pointer (some ⟨B9, 0, none⟩)) rfl (by kernel_rfl) (by kernel_rfl) (by kernel_rfl) (fun _ _ _ h => h) (by kernel_rfl) (by kernel_rfl) (fun _ _ => by kernel_rfl) hq0 ?_
              simp only [Act.put, List.setIfInBounds_toArray, List.set_cons_succ, List.set_cons_zero]
              refine gsem 3 (some 34) (.int .i64 5) rfl (by kernel_rfl) (by kernel_rfl) (by kernel_rfl) (fun _ _ _ h => h) (by kernel_rfl) (by kernel_rfl) (fun X hX => ex_load1 3 Tryz.isAgg3 rfl rfl (hX.get 2 rfl) rfl) hq0 ?_
              simp only [Act.put, List.setIfInBounds_toArray, List.set_cons_succ, List.set_cons_zero]
              refine gsem 4 (some 4) (.int .i64 ((i : Int) + 1)) rfl (by kernel_rfl) (by kernel_rfl) (by kernel_rfl) (fun _ _ _ h => h) (by kernel_rfl) (by kernel_rfl) (fun _ _ => by kernel_rfl) hq0 ?_
              simp only [Act.put, List.setIfInBounds_toArray, List.set_cons_succ, List.set_cons_zero]
              refine gsem 5 (some 5) (.int .i64 5) rfl (by kernel_rfl) (by kernel_rfl) (by kernel_rfl) (fun _ _ _ h => h) (by kernel_rfl) (by kernel_rfl) (fun _ _ => by kernel_rfl) hq0 ?_
              simp only [Act.put, List.setIfInBounds_toArray, List.set_cons_succ, List.set_cons_zero]
              refine wpAnyH_done (by kernel_rfl) ?_ _
              try simp only [Act.put, List.setIfInBounds_toArray, List.set_cons_succ, List.set_cons_zero]
              replace LL := hide hq0
              clear hq0 hS0
              go_wp2_with (first | go_skip | ((with_reducible show wpList _ _ _ _ _ _); first | ((refine rd (by rfl) (ex_indexG 43 2 4 unRs idRs rfl rfl rfl (by decide)) ?_); simp only [Act.put, List.setIfInBounds_toArray, List.set_cons_succ, List.set_cons_zero]) | ((refine rd (by rfl) (ex_loadN (vs := [.int .i64 5, .func (.func 40) #[] #[]]) 50 2 rwR szR rfl rfl ((unhide LL).get 0 rfl) rfl rfl) ?_); simp only [Act.put, List.setIfInBounds_toArray, List.set_cons_succ, List.set_cons_zero]) | ((refine alG 50 ([.int .i64 0, .nilFunc]) (by rfl) rfl (fun w => by kernel_rfl) (Nat.succ_pos _) (unhide LL) ?_); intro X9 B9 hE9 L9 hb9; have hB9 := hide (Nat.le_trans (unhide LL).fr.size (Nat.le_of_eq hE9.symm)); replace LL := hide L9; clear L9 hb9 hE9; simp only [Act.put, List.setIfInBounds_toArray, List.set_cons_succ, List.set_cons_zero]) | ((refine st (vs := [.int .i64 5, .func (.func 40) #[] #[]]) 2 50 (by rfl) rfl rfl rfl rfl (by simp [Value.oneCell']) szR (unhide LL) rfl (by simp [cput]) (Or.inr (unhide hB9)) ?_); intro X5 L5 hf5 hs5; replace LL := hide L5; clear L5 hf5 hs5; simp only [Act.put, List.setIfInBounds_toArray, List.set_cons_succ, List.set_cons_zero]) | ((refine rd (by rfl) (ex_load1 48 Tryz.isAgg48 rfl rfl ((unhide LL).get 2 rfl) rfl) ?_); simp only [Act.put, List.setIfInBounds_toArray, List.set_cons_succ, List.set_cons_zero]) | ((refine rd (by rfl) (ex_loadN (vs := c.cs) 46 17 rwC szC rfl rfl ((unhide LL).get 1 rfl) rfl rfl) ?_); simp only [Act.put, List.setIfInBounds_toArray, List.set_cons_succ, List.set_cons_zero]) | ((refine rd (by rfl) (ex_lenG 43 50 Tryz.underlying43 rfl rfl) ?_); simp only [Act.put, List.setIfInBounds_toArray, List.set_cons_succ, List.set_cons_zero])))
              go_ret2
              exact ⟨(i : Int) + 1, 5, rfl, unhide HF, (unhide LL).fr.below⟩
          · go_wp2_with (first | go_skip | ((with_reducible show wpList _ _ _ _ _ _); first | ((refine rd (by rfl) (ex_indexG 43 2 5 unRs idRs rfl rfl rfl (by decide)) ?_); simp only [Act.put, List.setIfInBounds_toArray, List.set_cons_succ, List.set_cons_zero]) | ((refine rd (by rfl) (ex_loadN (vs := [.int .i64 6, .func (.func 41) #[] #[]]) 50 2 rwR szR rfl rfl ((unhide LL).get 0 rfl) rfl rfl) ?_); simp only [Act.put, List.setIfInBounds_toArray, List.set_cons_succ, List.set_cons_zero]) | ((refine alG 50 ([.int .i64 0, .nilFunc]) (by rfl) rfl (fun w => by kernel_rfl) (Nat.succ_pos _) (unhide LL) ?_); intro X9 B9 hE9 L9 hb9; have hB9 := hide (Nat.le_trans (unhide LL).fr.size (Nat.le_of_eq hE9.symm)); replace LL := hide L9; clear L9 hb9 hE9; simp only [Act.put, List.setIfInBounds_toArray, List.set_cons_succ, List.set_cons_zero]) | ((refine st (vs := [.int .i64 6, .func (.func 41) #[] #[]]) 2 50 (by rfl) rfl rfl rfl rfl (by simp [Value.oneCell']) szR (unhide LL) rfl (by simp [cput]) (Or.inr (unhide hB9)) ?_); intro X5 L5 hf5 hs5; replace LL := hide L5; clear L5 hf5 hs5; simp only [Act.put, List.setIfInBounds_toArray, List.set_cons_succ, List.set_cons_zero]) | ((refine rd (by rfl) (ex_load1 48 Tryz.isAgg48 rfl rfl ((unhide LL).get 2 rfl) rfl) ?_); simp only [Act.put, List.setIfInBounds_toArray, List.set_cons_succ, List.set_cons_zero]) | ((refine rd (by rfl) (ex_loadN (vs := c.cs) 46 17 rwC szC rfl rfl ((unhide LL).get 1 rfl) rfl rfl) ?_); simp only [Act.put, List.setIfInBounds_toArray, List.set_cons_succ, List.set_cons_zero]) | ((refine rd (by rfl) (ex_lenG 43 50 Tryz.underlying43 rfl rfl) ?_); simp only [Act.put, List.setIfInBounds_toArray, List.set_cons_succ, List.set_cons_zero])))
            have HCC := fun X h1 h2 hT => otherProp_any c X h1 h2 (unhide HX).2.2.1 (unhide HX).2.2.2 hT
            simp only [coagg] at HCC
            refine (HCC _ ((unhide HX).1.fr (unhide LL).fr) ((unhide HX).2.1.fr (unhide LL).fr) (tabs_below (unhide HT) (unhide LL).fr.below)).mono ?_
            clear HCC
            rintro e X6 ⟨rfl, hb6⟩
            replace LL := hide ((unhide LL).on hb6)
            clear hb6
            cases hr : rbV c 5
            · have HE2 := hide ((unhide HE).step hr)
              have e2 : prV c = false := hr
              rw [e2]
              clear hr e2 HE
              go_wp2_with (first | go_skip | ((with_reducible show wpList _ _ _ _ _ _); first | ((refine rd (by rfl) (ex_indexG 43 2 5 unRs idRs rfl rfl rfl (by decide)) ?_); simp only [Act.put, List.setIfInBounds_toArray, List.set_cons_succ, List.set_cons_zero]) | ((refine rd (by rfl) (ex_loadN (vs := [.int .i64 6, .func (.func 41) #[] #[]]) 50 2 rwR szR rfl rfl ((unhide LL).get 0 rfl) rfl rfl) ?_); simp only [Act.put, List.setIfInBounds_toArray, List.set_cons_succ, List.set_cons_zero]) | ((refine alG 50 ([.int .i64 0, .nilFunc]) (by rfl) rfl (fun w => by kernel_rfl) (Nat.succ_pos _) (unhide LL) ?_); intro X9 B9 hE9 L9 hb9; have hB9 := hide (Nat.le_trans (unhide LL).fr.size (Nat.le_of_eq hE9.symm)); replace LL := hide L9; clear L9 hb9 hE9; simp only [Act.put, List.setIfInBounds_toArray, List.set_cons_succ, List.set_cons_zero]) | ((refine st (vs := [.int .i64 6, .func (.func 41) #[] #[]]) 2 50 (by rfl) rfl rfl rfl rfl (by simp [Value.oneCell']) szR (unhide LL) rfl (by simp [cput]) (Or.inr (unhide hB9)) ?_); intro X5 L5 hf5 hs5; replace LL := hide L5; clear L5 hf5 hs5; simp only [Act.put, List.setIfInBounds_toArray, List.set_cons_succ, List.set_cons_zero]) | ((refine rd (by rfl) (ex_load1 48 Tryz.isAgg48 rfl rfl ((unhide LL).get 2 rfl) rfl) ?_); simp only [Act.put, List.setIfInBounds_toArray, List.set_cons_succ, List.set_cons_zero]) | ((refine rd (by rfl) (ex_loadN (vs := c.cs) 46 17 rwC szC rfl rfl ((unhide LL).get 1 rfl) rfl rfl) ?_); simp only [Act.put, List.setIfInBounds_toArray, List.set_cons_succ, List.set_cons_zero]) | ((refine rd (by rfl) (ex_lenG 43 50 Tryz.underlying43 rfl rfl) ?_); simp only [Act.put, List.setIfInBounds_toArray, List.set_cons_succ, List.set_cons_zero])))
              replace LL := hide (Hq.left (L := [(BR, ruleCs), (B8, c.cs)]) (unhide LL))
              go_roundg (6 - (5 + 1))
              case measure => omega
              case rel => exact ⟨5 + 1, by go_num, by omega, by omega, HE2, LL⟩
            · have HF : Hid (BrP bs ns ((i : Int) + 1) 6) := hide (.inr ⟨i, 5, unhide HLT, by decide, rfl, rfl, by rw [← unhide HS]; exact hr, fun q hq => by rw [← unhide HS]; exact (unhide HE) q hq, unhide HD⟩)
              have e2 : prV c = true := hr
              rw [e2]
              clear hr e2 HE HD
              go_wp2_with (first | go_skip | ((with_reducible show wpList _ _ _ _ _ _); first | ((refine rd (by rfl) (ex_indexG 43 2 5 unRs idRs rfl rfl rfl (by decide)) ?_); simp only [Act.put, List.setIfInBounds_toArray, List.set_cons_succ, List.set_cons_zero]) | ((refine rd (by rfl) (ex_loadN (vs := [.int .i64 6, .func (.func 41) #[] #[]]) 50 2 rwR szR rfl rfl ((unhide LL).get 0 rfl) rfl rfl) ?_); simp only [Act.put, List.setIfInBounds_toArray, List.set_cons_succ, List.set_cons_zero]) | ((refine alG 50 ([.int .i64 0, .nilFunc]) (by rfl) rfl (fun w => by kernel_rfl) (Nat.succ_pos _) (unhide LL) ?_); intro X9 B9 hE9 L9 hb9; have hB9 := hide (Nat.le_trans (unhide LL).fr.size (Nat.le_of_eq hE9.symm)); replace LL := hide L9; clear L9 hb9 hE9; simp only [Act.put, List.setIfInBounds_toArray, List.set_cons_succ, List.set_cons_zero]) | ((refine st (vs := [.int .i64 6, .func (.func 41) #[] #[]]) 2 50 (by rfl) rfl rfl rfl rfl (by simp [Value.oneCell']) szR (unhide LL) rfl (by simp [cput]) (Or.inr (unhide hB9)) ?_); intro X5 L5 hf5 hs5; replace LL := hide L5; clear L5 hf5 hs5; simp only [Act.put, List.setIfInBounds_toArray, List.set_cons_succ, List.set_cons_zero]) | ((refine rd (by rfl) (ex_load1 48 Tryz.isAgg48 rfl rfl ((unhide LL).get 2 rfl) rfl) ?_); simp only [Act.put, List.setIfInBounds_toArray, List.set_cons_succ, List.set_cons_zero]) | ((refine rd (by rfl) (ex_loadN (vs := c.cs) 46 17 rwC szC rfl rfl ((unhide LL).get 1 rfl) rfl rfl) ?_); simp only [Act.put, List.setIfInBounds_toArray, List.set_cons_succ, List.set_cons_zero]) | ((refine rd (by rfl) (ex_lenG 43 50 Tryz.underlying43 rfl rfl) ?_); simp only [Act.put, List.setIfInBounds_toArray, List.set_cons_succ, List.set_cons_zero])))
              have hq0 : Hq w _ [] [(BR, ruleCs), (B8, c.cs), (B9, [.int .i64 6, .func (.func 41) #[] #[]])] := (unhide LL).drew
              refine wp_region_held_drew (P := Tryz.prog) (S := fun X => Hq w X [] [(BR, ruleCs), (B8, c.cs), (B9, [.int .i64 6, .func (.func 41) #[] #[]])]) (by kernel_rfl) hq0 (fun hS0 => ?_)
              refine gsem 0 (some 31) (.int .i64 (i : Nat)) rfl (by kernel_rfl) (by kernel_rfl) (by kernel_rfl) (fun _ _ _ h => h) (by kernel_rfl) (by kernel_rfl) (fun _ _ => by kernel_rfl) hq0 ?_
              simp only [Act.put, List.setIfInBounds_toArray, List.set_cons_succ, List.set_cons_zero]
              refine gsem 1 (some 32) (.int .i64 ((i : Int) + 1)) rfl (by kernel_rfl) (by kernel_rfl) (by kernel_rfl) (fun _ _ _ h => h) (by kernel_rfl) (by kernel_rfl) (fun X hX => ex_addI rfl rfl rfl hw1) hq0 ?_
              simp only [Act.put, List.setIfInBounds_toArray, List.set_cons_succ, List.set_cons_zero]
              refine gsem 2 (some 33) (.pointer (some ⟨B9, 0, none⟩)) rfl (by kernel_rfl) (by kernel_rfl) (by kernel_rfl) (fun _ _ _ h => h) (by kernel_rfl) (by kernel_rfl) (fun _ _ => by kernel_rfl) hq0 ?_
              simp only [Act.put, List.setIfInBounds_toArray, List.set_cons_succ, List.set_cons_zero]
              refine gsem 3 (some 34) (.int .i64 6) rfl (by kernel_rfl) (by kernel_rfl) (by kernel_rfl) (fun _ _ _ h => h) (by kernel_rfl) (by kernel_rfl) (fun X hX => ex_load1 3 Tryz.isAgg3 rfl rfl (hX.get 2 rfl) rfl) hq0 ?_
              simp only [Act.put, List.setIfInBounds_toArray, List.set_cons_succ, List.set_cons_zero]
              refine gsem 4 (some 4) (.int .i64 ((i : Int) + 1)) rfl (by kernel_rfl) (by kernel_rfl) (by kernel_rfl) (fun _ _ _ h => h) (by kernel_rfl) (by kernel_rfl) (fun _ _ => by kernel_rfl) hq0 ?_
              simp only [Act.put, List.setIfInBounds_toArray, List.set_cons_succ, List.set_cons_zero]
              refine gsem 5 (some 5) (.int .i64 6) rfl (by kernel_rfl) (by kernel_rfl) (by kernel_rfl) (fun _ _ _ h => h) (by kernel_rfl) (by kernel_rfl) (fun _ _ => by kernel_rfl) hq0 ?_
              simp only [Act.put, List.setIfInBounds_toArray, List.set_cons_succ, List.set_cons_zero]
              refine wpAnyH_done (by kernel_rfl) ?_ _
              try simp only [Act.put, List.setIfInBounds_toArray, List.set_cons_succ, List.set_cons_zero]
              replace LL := hide hq0
              clear hq0 hS0
              go_wp2_with (first | go_skip | ((with_reducible show wpList _ _ _ _ _ _); first | ((refine rd (by rfl) (ex_indexG 43 2 5 unRs idRs rfl rfl rfl (by decide)) ?_); simp only [Act.put, List.setIfInBounds_toArray, List.set_cons_succ, List.set_cons_zero]) | ((refine rd (by rfl) (ex_loadN (vs := [.int .i64 6, .func (.func 41) #[] #[]]) 50 2 rwR szR rfl rfl ((unhide LL).get 0 rfl) rfl rfl) ?_); simp only [Act.put, List.setIfInBounds_toArray, List.set_cons_succ, List.set_cons_zero]) | ((refine alG 50 ([.int .i64 0, .nilFunc]) (by rfl) rfl (fun w => by kernel_rfl) (Nat.succ_pos _) (unhide LL) ?_); intro X9 B9 hE9 L9 hb9; have hB9 := hide (Nat.le_trans (unhide LL).fr.size (Nat.le_of_eq hE9.symm)); replace LL := hide L9; clear L9 hb9 hE9; simp only [Act.put, List.setIfInBounds_toArray, List.set_cons_succ, List.set_cons_zero]) | ((refine st (vs := [.int .i64 6, .func (.func 41) #[] #[]]) 2 50 (by rfl) rfl rfl rfl rfl (by simp [Value.oneCell']) szR (unhide LL) rfl (by simp [cput]) (Or.inr (unhide hB9)) ?_); intro X5 L5 hf5 hs5; replace LL := hide L5; clear L5 hf5 hs5; simp only [Act.put, List.setIfInBounds_toArray, List.set_cons_succ, List.set_cons_zero]) | ((refine rd (by rfl) (ex_load1 48 Tryz.isAgg48 rfl rfl ((unhide LL).get 2 rfl) rfl) ?_); simp only [Act.put, List.setIfInBounds_toArray, List.set_cons_succ, List.set_cons_zero]) | ((refine rd (by rfl) (ex_loadN (vs := c.cs) 46 17 rwC szC rfl rfl ((unhide LL).get 1 rfl) rfl rfl) ?_); simp only [Act.put, List.setIfInBounds_toArray, List.set_cons_succ, List.set_cons_zero]) | ((refine rd (by rfl) (ex_lenG 43 50 Tryz.underlying43 rfl rfl) ?_); simp only [Act.put, List.setIfInBounds_toArray, List.set_cons_succ, List.set_cons_zero])))
              go_ret2
              exact ⟨(i : Int) + 1, 6, rfl, unhide HF, (unhide LL).fr.below⟩
        · obtain rfl : j = 6 := by omega
          have HD2 := hide ((unhide HD).step (fun q hq => by rw [← unhide HS]; exact (unhide HE) q hq))
          clear hj6 hjl HD HE
          go_wp2_with (first | go_skip | ((with_reducible show wpList _ _ _ _ _ _); first | ((refine rd (by rfl) (ex_lenG 43 50 Tryz.underlying43 rfl rfl) ?_); simp only [Act.put, List.setIfInBounds_toArray, List.set_cons_succ, List.set_cons_zero])))
          replace LL := hide (Hq.left (L := [(BR, ruleCs)]) (unhide LL))
          go_roundg (bs.length - (i + 1))
          case measure => have := unhide HLT; omega
          case rel => exact ⟨i + 1, by go_num, by have := unhide HLT; omega, by omega, HD2, LL⟩
    · obtain rfl : i = bs.length := by omega
      clear hlt hil
      go_wp2_with (first | go_skip | ((with_reducible show wpList _ _ _ _ _ _); first | ((refine rd (by rfl) (ex_lenG 22 34 Tryz.underlying22 rfl rfl) ?_); simp only [Act.put, List.setIfInBounds_toArray, List.set_cons_succ, List.set_cons_zero])))
      go_ret2
      exact ⟨0, 0, rfl, .inl ⟨rfl, rfl, unhide HD⟩, (unhide LL).fr.below⟩
end Go.Proofs.YtcflglloopgieaaGreatDoor
