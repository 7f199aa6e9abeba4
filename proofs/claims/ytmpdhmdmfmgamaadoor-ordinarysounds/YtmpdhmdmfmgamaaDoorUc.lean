import Derived.Test.YtmpdhmdmfmgamaaDoorUb

/-! Ol -/
namespace Go.Proofs.YtmpdhmdmfmgamaaDoor
open Go Go.Proofs Go.Maps Go.RowKit FM
set_option linter.unusedSimpArgs false
set_option linter.unusedVariables false
set_option maxHeartbeats 1000000
theorem range_mid {w : World} {b p : Nat} {cs : List Value} (h : w.rangeAt b p cs) (k n : Nat) : w.rangeAt b (p + k) ((cs.drop k).take n) := by
  intro j v hv
  rw [List.getElem?_take] at hv
  split at hv
  · rw [List.getElem?_drop] at hv
    have := h (k + j) v hv
    rwa [show p + (k + j) = p + k + j by omega] at this
  · cases hv
theorem eql41 (a b : KK) (w : World) : (binOp .eql 41 a.agg b.agg).run Tryd.prog w = .ok (.bool (decide (a = b))) w := by
  unfold KK.agg
  have ht : Tryd.prog.underlying 41 = some (.struct (Tryd.prog.fieldsOf 41)) := by kernel_rfl
  rw [run_eql_struct, show (10000 : Nat) = 9998 + 1 + 1 from rfl, run_equalIn_struct _ _ _ _ _ ht (by kernel_rfl)]
  have hf : Tryd.prog.fieldsOf 41 = (match Tryd.prog.underlying 41 with | some (.struct f) => f | _ => #[]) := by kernel_rfl
  rw [hf, Tryd.underlying41]
  simp [Op.eqFields, go_sem, part]
  by_cases h1 : a.s.toList = b.s.toList
  · by_cases h2 : a.n = b.n
    · rw [if_pos h1, if_pos h2, decide_eq_true (KK.ext' (toList_inj h1) h2)]
    · rw [if_pos h1, if_neg h2, decide_eq_false (fun e : a = b => h2 (congrArg KK.n e))]
  · rw [if_neg h1, decide_eq_false (fun e : a = b => h1 (congrArg (fun z : KK => z.s.toList) e))]
theorem ex_eql41 {o : Oper} {a : Act} {w : World} {x y : Operand} (k q : KK) (ho : o.op = .binOp .eql 41 x y 41) (hx : a.eval x = k.agg) (hy : a.eval y = q.agg) : (execOp a.eval o).run Tryd.prog w = .ok (.value (.bool (decide (k = q)))) w := by
  have e := eql41 k q w
  have e2 : (eqGuard .eql 41 x y k.agg q.agg).run Tryd.prog w = .ok () w := by kernel_rfl
  unfold execOp
  simp only [ho, hx, hy]
  simp [e, e2]
theorem ends_none {nx : Nat → Option Nat} {f a : Nat} (h : nx a = none) : endsF nx (f + 1) a = true := by
  rw [endsF, h]
theorem ends_some {nx : Nat → Option Nat} {f a z : Nat} (h : nx a = some z) : endsF nx (f + 1) a = endsF nx f z := by
  rw [endsF, h]
set_option maxHeartbeats 2000000 in
set_option maxRecDepth 100000 in
theorem ends16 (A : Option Addr) (cap : Nat) (l : List SH) (i : Nat) (w : World) (hR : ReadsS w A l) (hn : l.length ≤ 65536) (hi : i < l.length) : Calls Tryd.prog 16 #[.slice A l.length cap, .int .i64 (i : Nat)] w fun e w' => e = .returned (.bool (tL l i)) ∧ Below w.heap.size w w' := by
  have HR := hide hR
  have HN := hide hn
  have HF := hide (Fr.refl w [])
  have HS : Hid (i < l.length ∧ tL l i = endsF (nxR l) (l.length + 1 - 0) i) := hide ⟨hi, rfl⟩
  clear hR hn hi
  go_enter Tryd.func16, Tryd.ntmps16
  go_wp2_with (first | go_skip | ((with_reducible show wpList _ _ _ _ _ _); first | ((refine rd (by rfl) (ex_lenG 22 28 Tryd.underlying22 rfl rfl) ?_); simp only [Act.put, List.setIfInBounds_toArray, List.set_cons_succ, List.set_cons_zero]) | ((refine rd (by rfl) (ex_indexG 22 8 a und22 idx22 rfl rfl rfl (unhide HLT)) ?_); simp only [Act.put, List.setIfInBounds_toArray, List.set_cons_succ, List.set_cons_zero]) | ((refine rd (by rfl) (ex_loadC 3 Tryd.isAgg3 rfl rfl ((unhide HA2 _ (unhide HF)).1 0 _ rfl)) ?_); simp only [Act.put, List.setIfInBounds_toArray, List.set_cons_succ, List.set_cons_zero]) | ((refine rd (by rfl) (ex_loadC 3 Tryd.isAgg3 rfl rfl ((unhide HA2 _ (unhide HF)).2 4 _ rfl)) ?_); simp only [Act.put, List.setIfInBounds_toArray, List.set_cons_succ, List.set_cons_zero]) | ((refine rd (by rfl) (ex_loadR (vs := s.p.cs) 25 5 row25 siz25 rfl rfl (unhide HA2 _ (unhide HF)).2 rfl) ?_); simp only [Act.put, List.setIfInBounds_toArray, List.set_cons_succ, List.set_cons_zero])))
  go_loopg [1, 5] (l.length + 1) (fun gm s1 s5 wr => ∃ (a k : Nat), s1 = .int .i64 (a : Nat) ∧ s5 = .int .i64 (k : Nat) ∧ k ≤ l.length + 1 ∧ l.length + 1 - k ≤ gm ∧ Hid (a < l.length ∧ tL l i = endsF (nxR l) (l.length + 1 - k) a) ∧ Hid (Fr w wr []))
  case atStart => exact ⟨i, 0, rfl, rfl, by omega, by omega, HS, HF⟩
  case round =>
    clear HF HS
    obtain ⟨a, k, rfl, rfl, hk, hgm, HE, HF⟩ := hrel
    by_cases hlt : k ≤ l.length
    · have dlt : decide ((k : Int) ≤ (l.length : Int)) = true := decide_eq_true (by omega)
      have hle : (k : Int) ≤ (l.length : Int) := by omega
      have hw1 : IntKind.i64.wrap ((k : Int) + 1) = (k : Int) + 1 := by have := unhide HN; rw [IntKind.wrap_i64]; omega
      have ha := (unhide HE).1
      obtain ⟨s, hs⟩ : ∃ s, l[a]? = some s := ⟨_, List.getElem?_eq_getElem ha⟩
      obtain ⟨hx64, _, b, off, SA, sc, hA, hb, _, hrg⟩ := (unhide HR) a s hs
      subst hA
      have HA2 : Hid (∀ X, Fr w X [] → X.rangeAt b (off + a * 8) (s.cs SA sc) ∧ X.rangeAt b (off + a * 8 + 1) s.p.cs) := hide (fun X hX => ⟨rangeAt_fr hrg hb hX, range_mid (rangeAt_fr hrg hb hX) 1 5⟩)
      have HLT := hide ha
      have HKL := hide hlt
      have hnx : nxR l a = if s.c == 9 || !obR s.p l.length then none else some (s.p.i - 1).toNat := by unfold nxR; rw [hs]
      have hres : tL l i = endsF (nxR l) (l.length - k + 1) a := by rw [(unhide HE).2, show l.length + 1 - k = l.length - k + 1 by omega]
      have HNU := hide (rnull_any s.p hx64)
      have HOB := hide (robject_any s.p l.length hx64)
      rw [vagg] at HNU HOB
      clear hb hrg ha hs hx64 HE hk hlt
      by_cases hc : s.c = 9
      · have hc2 : (s.c == 9) = true := by simp [hc]
        rw [hc2, Bool.true_or, if_pos rfl] at hnx
        have HRES : Hid (tL l i = true) := hide (hres.trans (ends_none hnx))
        clear hc hnx hres
        go_wp2_with (first | go_skip | ((with_reducible show wpList _ _ _ _ _ _); first | ((refine rd (by rfl) (ex_lenG 22 28 Tryd.underlying22 rfl rfl) ?_); simp only [Act.put, List.setIfInBounds_toArray, List.set_cons_succ, List.set_cons_zero]) | ((refine rd (by rfl) (ex_indexG 22 8 a und22 idx22 rfl rfl rfl (unhide HLT)) ?_); simp only [Act.put, List.setIfInBounds_toArray, List.set_cons_succ, List.set_cons_zero]) | ((refine rd (by rfl) (ex_loadC 3 Tryd.isAgg3 rfl rfl ((unhide HA2 _ (unhide HF)).1 0 _ rfl)) ?_); simp only [Act.put, List.setIfInBounds_toArray, List.set_cons_succ, List.set_cons_zero]) | ((refine rd (by rfl) (ex_loadC 3 Tryd.isAgg3 rfl rfl ((unhide HA2 _ (unhide HF)).2 4 _ rfl)) ?_); simp only [Act.put, List.setIfInBounds_toArray, List.set_cons_succ, List.set_cons_zero]) | ((refine rd (by rfl) (ex_loadR (vs := s.p.cs) 25 5 row25 siz25 rfl rfl (unhide HA2 _ (unhide HF)).2 rfl) ?_); simp only [Act.put, List.setIfInBounds_toArray, List.set_cons_succ, List.set_cons_zero])))
        go_ret
        exact ⟨by rw [unhide HRES]; rfl, (unhide HF).below⟩
      · have hc2 : (s.c == 9) = false := by simp [hc]
        rw [hc2, Bool.false_or] at hnx
        have hno : nulV s.p = true → obR s.p l.length = false := nul_ob
        have hid : obR s.p l.length = true → 1 ≤ s.p.i ∧ s.p.i ≤ (l.length : Int) := ob_id
        generalize nulV s.p = nu at *
        generalize obR s.p l.length = ob at *
        cases nu
        · cases ob
          · rw [Bool.not_false, if_pos rfl] at hnx
            have HRES : Hid (tL l i = true) := hide (hres.trans (ends_none hnx))
            clear hc hnx hres hno hid
            go_wp2_with (first | go_skip | ((with_reducible show wpList _ _ _ _ _ _); first | ((refine rd (by rfl) (ex_lenG 22 28 Tryd.underlying22 rfl rfl) ?_); simp only [Act.put, List.setIfInBounds_toArray, List.set_cons_succ, List.set_cons_zero]) | ((refine rd (by rfl) (ex_indexG 22 8 a und22 idx22 rfl rfl rfl (unhide HLT)) ?_); simp only [Act.put, List.setIfInBounds_toArray, List.set_cons_succ, List.set_cons_zero]) | ((refine rd (by rfl) (ex_loadC 3 Tryd.isAgg3 rfl rfl ((unhide HA2 _ (unhide HF)).1 0 _ rfl)) ?_); simp only [Act.put, List.setIfInBounds_toArray, List.set_cons_succ, List.set_cons_zero]) | ((refine rd (by rfl) (ex_loadC 3 Tryd.isAgg3 rfl rfl ((unhide HA2 _ (unhide HF)).2 4 _ rfl)) ?_); simp only [Act.put, List.setIfInBounds_toArray, List.set_cons_succ, List.set_cons_zero]) | ((refine rd (by rfl) (ex_loadR (vs := s.p.cs) 25 5 row25 siz25 rfl rfl (unhide HA2 _ (unhide HF)).2 rfl) ?_); simp only [Act.put, List.setIfInBounds_toArray, List.set_cons_succ, List.set_cons_zero])))
            refine (unhide HNU _).mono ?_
            rintro e X1 ⟨rfl, hb⟩
            replace HF := hide ((unhide HF).on hb)
            clear hb
            go_wp2_with (first | go_skip | ((with_reducible show wpList _ _ _ _ _ _); first | ((refine rd (by rfl) (ex_lenG 22 28 Tryd.underlying22 rfl rfl) ?_); simp only [Act.put, List.setIfInBounds_toArray, List.set_cons_succ, List.set_cons_zero]) | ((refine rd (by rfl) (ex_indexG 22 8 a und22 idx22 rfl rfl rfl (unhide HLT)) ?_); simp only [Act.put, List.setIfInBounds_toArray, List.set_cons_succ, List.set_cons_zero]) | ((refine rd (by rfl) (ex_loadC 3 Tryd.isAgg3 rfl rfl ((unhide HA2 _ (unhide HF)).1 0 _ rfl)) ?_); simp only [Act.put, List.setIfInBounds_toArray, List.set_cons_succ, List.set_cons_zero]) | ((refine rd (by rfl) (ex_loadC 3 Tryd.isAgg3 rfl rfl ((unhide HA2 _ (unhide HF)).2 4 _ rfl)) ?_); simp only [Act.put, List.setIfInBounds_toArray, List.set_cons_succ, List.set_cons_zero]) | ((refine rd (by rfl) (ex_loadR (vs := s.p.cs) 25 5 row25 siz25 rfl rfl (unhide HA2 _ (unhide HF)).2 rfl) ?_); simp only [Act.put, List.setIfInBounds_toArray, List.set_cons_succ, List.set_cons_zero])))
            refine (unhide HOB _).mono ?_
            rintro e X2 ⟨rfl, hb⟩
            replace HF := hide ((unhide HF).on hb)
            clear hb
            go_wp2_with (first | go_skip | ((with_reducible show wpList _ _ _ _ _ _); first | ((refine rd (by rfl) (ex_lenG 22 28 Tryd.underlying22 rfl rfl) ?_); simp only [Act.put, List.setIfInBounds_toArray, List.set_cons_succ, List.set_cons_zero]) | ((refine rd (by rfl) (ex_indexG 22 8 a und22 idx22 rfl rfl rfl (unhide HLT)) ?_); simp only [Act.put, List.setIfInBounds_toArray, List.set_cons_succ, List.set_cons_zero]) | ((refine rd (by rfl) (ex_loadC 3 Tryd.isAgg3 rfl rfl ((unhide HA2 _ (unhide HF)).1 0 _ rfl)) ?_); simp only [Act.put, List.setIfInBounds_toArray, List.set_cons_succ, List.set_cons_zero]) | ((refine rd (by rfl) (ex_loadC 3 Tryd.isAgg3 rfl rfl ((unhide HA2 _ (unhide HF)).2 4 _ rfl)) ?_); simp only [Act.put, List.setIfInBounds_toArray, List.set_cons_succ, List.set_cons_zero]) | ((refine rd (by rfl) (ex_loadR (vs := s.p.cs) 25 5 row25 siz25 rfl rfl (unhide HA2 _ (unhide HF)).2 rfl) ?_); simp only [Act.put, List.setIfInBounds_toArray, List.set_cons_succ, List.set_cons_zero])))
            go_ret
            exact ⟨by rw [unhide HRES]; rfl, (unhide HF).below⟩
          · rw [Bool.not_true, if_neg (by decide)] at hnx
            obtain ⟨h1, h2⟩ := hid rfl
            obtain ⟨j, hj⟩ : ∃ j : Nat, s.p.i - 1 = (j : Int) := ⟨(s.p.i - 1).toNat, by omega⟩
            have ej : (s.p.i - 1).toNat = j := by omega
            rw [ej] at hnx
            have hwr : IntKind.i64.wrap (s.p.i - 1) = (j : Int) := by have := unhide HN; rw [hj, IntKind.wrap_i64]; omega
            have HE2 : Hid (j < l.length ∧ tL l i = endsF (nxR l) (l.length + 1 - (k + 1)) j) := hide ⟨nx_lt a j (unhide HLT) hnx, by rw [hres, ends_some hnx, show l.length + 1 - (k + 1) = l.length - k by omega]⟩
            clear hc hnx hres hno hid h1 h2 ej hj
            go_wp2_with (first | go_skip | ((with_reducible show wpList _ _ _ _ _ _); first | ((refine rd (by rfl) (ex_lenG 22 28 Tryd.underlying22 rfl rfl) ?_); simp only [Act.put, List.setIfInBounds_toArray, List.set_cons_succ, List.set_cons_zero]) | ((refine rd (by rfl) (ex_indexG 22 8 a und22 idx22 rfl rfl rfl (unhide HLT)) ?_); simp only [Act.put, List.setIfInBounds_toArray, List.set_cons_succ, List.set_cons_zero]) | ((refine rd (by rfl) (ex_loadC 3 Tryd.isAgg3 rfl rfl ((unhide HA2 _ (unhide HF)).1 0 _ rfl)) ?_); simp only [Act.put, List.setIfInBounds_toArray, List.set_cons_succ, List.set_cons_zero]) | ((refine rd (by rfl) (ex_loadC 3 Tryd.isAgg3 rfl rfl ((unhide HA2 _ (unhide HF)).2 4 _ rfl)) ?_); simp only [Act.put, List.setIfInBounds_toArray, List.set_cons_succ, List.set_cons_zero]) | ((refine rd (by rfl) (ex_loadR (vs := s.p.cs) 25 5 row25 siz25 rfl rfl (unhide HA2 _ (unhide HF)).2 rfl) ?_); simp only [Act.put, List.setIfInBounds_toArray, List.set_cons_succ, List.set_cons_zero])))
            refine (unhide HNU _).mono ?_
            rintro e X1 ⟨rfl, hb⟩
            replace HF := hide ((unhide HF).on hb)
            clear hb
            go_wp2_with (first | go_skip | ((with_reducible show wpList _ _ _ _ _ _); first | ((refine rd (by rfl) (ex_lenG 22 28 Tryd.underlying22 rfl rfl) ?_); simp only [Act.put, List.setIfInBounds_toArray, List.set_cons_succ, List.set_cons_zero]) | ((refine rd (by rfl) (ex_indexG 22 8 a und22 idx22 rfl rfl rfl (unhide HLT)) ?_); simp only [Act.put, List.setIfInBounds_toArray, List.set_cons_succ, List.set_cons_zero]) | ((refine rd (by rfl) (ex_loadC 3 Tryd.isAgg3 rfl rfl ((unhide HA2 _ (unhide HF)).1 0 _ rfl)) ?_); simp only [Act.put, List.setIfInBounds_toArray, List.set_cons_succ, List.set_cons_zero]) | ((refine rd (by rfl) (ex_loadC 3 Tryd.isAgg3 rfl rfl ((unhide HA2 _ (unhide HF)).2 4 _ rfl)) ?_); simp only [Act.put, List.setIfInBounds_toArray, List.set_cons_succ, List.set_cons_zero]) | ((refine rd (by rfl) (ex_loadR (vs := s.p.cs) 25 5 row25 siz25 rfl rfl (unhide HA2 _ (unhide HF)).2 rfl) ?_); simp only [Act.put, List.setIfInBounds_toArray, List.set_cons_succ, List.set_cons_zero])))
            refine (unhide HOB _).mono ?_
            rintro e X2 ⟨rfl, hb⟩
            replace HF := hide ((unhide HF).on hb)
            clear hb
            go_wp2_with (first | go_skip | ((with_reducible show wpList _ _ _ _ _ _); first | ((refine rd (by rfl) (ex_lenG 22 28 Tryd.underlying22 rfl rfl) ?_); simp only [Act.put, List.setIfInBounds_toArray, List.set_cons_succ, List.set_cons_zero]) | ((refine rd (by rfl) (ex_indexG 22 8 a und22 idx22 rfl rfl rfl (unhide HLT)) ?_); simp only [Act.put, List.setIfInBounds_toArray, List.set_cons_succ, List.set_cons_zero]) | ((refine rd (by rfl) (ex_loadC 3 Tryd.isAgg3 rfl rfl ((unhide HA2 _ (unhide HF)).1 0 _ rfl)) ?_); simp only [Act.put, List.setIfInBounds_toArray, List.set_cons_succ, List.set_cons_zero]) | ((refine rd (by rfl) (ex_loadC 3 Tryd.isAgg3 rfl rfl ((unhide HA2 _ (unhide HF)).2 4 _ rfl)) ?_); simp only [Act.put, List.setIfInBounds_toArray, List.set_cons_succ, List.set_cons_zero]) | ((refine rd (by rfl) (ex_loadR (vs := s.p.cs) 25 5 row25 siz25 rfl rfl (unhide HA2 _ (unhide HF)).2 rfl) ?_); simp only [Act.put, List.setIfInBounds_toArray, List.set_cons_succ, List.set_cons_zero])))
            go_roundg (l.length + 1 - (k + 1))
            case measure => have := unhide HKL; omega
            case rel => exact ⟨j, k + 1, rfl, by go_num, by have := unhide HKL; omega, by omega, HE2, HF⟩
        · rw [hno rfl, Bool.not_false, if_pos rfl] at hnx
          have HRES : Hid (tL l i = true) := hide (hres.trans (ends_none hnx))
          clear hc hnx hres hno hid
          go_wp2_with (first | go_skip | ((with_reducible show wpList _ _ _ _ _ _); first | ((refine rd (by rfl) (ex_lenG 22 28 Tryd.underlying22 rfl rfl) ?_); simp only [Act.put, List.setIfInBounds_toArray, List.set_cons_succ, List.set_cons_zero]) | ((refine rd (by rfl) (ex_indexG 22 8 a und22 idx22 rfl rfl rfl (unhide HLT)) ?_); simp only [Act.put, List.setIfInBounds_toArray, List.set_cons_succ, List.set_cons_zero]) | ((refine rd (by rfl) (ex_loadC 3 Tryd.isAgg3 rfl rfl ((unhide HA2 _ (unhide HF)).1 0 _ rfl)) ?_); simp only [Act.put, List.setIfInBounds_toArray, List.set_cons_succ, List.set_cons_zero]) | ((refine rd (by rfl) (ex_loadC 3 Tryd.isAgg3 rfl rfl ((unhide HA2 _ (unhide HF)).2 4 _ rfl)) ?_); simp only [Act.put, List.setIfInBounds_toArray, List.set_cons_succ, List.set_cons_zero]) | ((refine rd (by rfl) (ex_loadR (vs := s.p.cs) 25 5 row25 siz25 rfl rfl (unhide HA2 _ (unhide HF)).2 rfl) ?_); simp only [Act.put, List.setIfInBounds_toArray, List.set_cons_succ, List.set_cons_zero])))
          refine (unhide HNU _).mono ?_
          rintro e X1 ⟨rfl, hb⟩
          replace HF := hide ((unhide HF).on hb)
          clear hb
          go_wp2_with (first | go_skip | ((with_reducible show wpList _ _ _ _ _ _); first | ((refine rd (by rfl) (ex_lenG 22 28 Tryd.underlying22 rfl rfl) ?_); simp only [Act.put, List.setIfInBounds_toArray, List.set_cons_succ, List.set_cons_zero]) | ((refine rd (by rfl) (ex_indexG 22 8 a und22 idx22 rfl rfl rfl (unhide HLT)) ?_); simp only [Act.put, List.setIfInBounds_toArray, List.set_cons_succ, List.set_cons_zero]) | ((refine rd (by rfl) (ex_loadC 3 Tryd.isAgg3 rfl rfl ((unhide HA2 _ (unhide HF)).1 0 _ rfl)) ?_); simp only [Act.put, List.setIfInBounds_toArray, List.set_cons_succ, List.set_cons_zero]) | ((refine rd (by rfl) (ex_loadC 3 Tryd.isAgg3 rfl rfl ((unhide HA2 _ (unhide HF)).2 4 _ rfl)) ?_); simp only [Act.put, List.setIfInBounds_toArray, List.set_cons_succ, List.set_cons_zero]) | ((refine rd (by rfl) (ex_loadR (vs := s.p.cs) 25 5 row25 siz25 rfl rfl (unhide HA2 _ (unhide HF)).2 rfl) ?_); simp only [Act.put, List.setIfInBounds_toArray, List.set_cons_succ, List.set_cons_zero])))
          go_ret
          exact ⟨by rw [unhide HRES]; rfl, (unhide HF).below⟩
    · obtain rfl : k = l.length + 1 := by omega
      have dlt : decide (((l.length + 1 : Nat) : Int) ≤ (l.length : Int)) = false := decide_eq_false (by omega)
      have hnl : ¬ ((l.length + 1 : Nat) : Int) ≤ (l.length : Int) := by omega
      have HRES : Hid (tL l i = false) := hide (by rw [(unhide HE).2, Nat.sub_self]; rfl)
      clear hlt hk HE
      go_wp2_with (first | go_skip | ((with_reducible show wpList _ _ _ _ _ _); first | ((refine rd (by rfl) (ex_lenG 22 28 Tryd.underlying22 rfl rfl) ?_); simp only [Act.put, List.setIfInBounds_toArray, List.set_cons_succ, List.set_cons_zero]) | ((refine rd (by rfl) (ex_indexG 22 8 a und22 idx22 rfl rfl rfl (unhide HLT)) ?_); simp only [Act.put, List.setIfInBounds_toArray, List.set_cons_succ, List.set_cons_zero]) | ((refine rd (by rfl) (ex_loadC 3 Tryd.isAgg3 rfl rfl ((unhide HA2 _ (unhide HF)).1 0 _ rfl)) ?_); simp only [Act.put, List.setIfInBounds_toArray, List.set_cons_succ, List.set_cons_zero]) | ((refine rd (by rfl) (ex_loadC 3 Tryd.isAgg3 rfl rfl ((unhide HA2 _ (unhide HF)).2 4 _ rfl)) ?_); simp only [Act.put, List.setIfInBounds_toArray, List.set_cons_succ, List.set_cons_zero]) | ((refine rd (by rfl) (ex_loadR (vs := s.p.cs) 25 5 row25 siz25 rfl rfl (unhide HA2 _ (unhide HF)).2 rfl) ?_); simp only [Act.put, List.setIfInBounds_toArray, List.set_cons_succ, List.set_cons_zero])))
      go_ret
      exact ⟨by rw [unhide HRES]; rfl, (unhide HF).below⟩
end Go.Proofs.YtmpdhmdmfmgamaaDoor

/-! Om -/
namespace Go.Proofs.YtmpdhmdmfmgamaaDoor
open Go Go.Proofs Go.Maps Go.RowKit FM
set_option linter.unusedSimpArgs false
set_option linter.unusedVariables false
set_option maxHeartbeats 1000000
theorem any_step {l : List PR} {i : Nat} {p : PR} {k : KK} (h : (l.take i).any (fun q => decide (q.k = k)) = false) (hp : l[i]? = some p) (hne : p.k ≠ k) : (l.take (i + 1)).any (fun q => decide (q.k = k)) = false := by
  rw [take_any l i p hp k, h, decide_eq_false hne]
  rfl
theorem any_hit {l : List PR} {i j : Nat} {p : PR} {k : KK} (hp : l[j]? = some p) (hj : j < i) (he : p.k = k) : (l.take i).any (fun q => decide (q.k = k)) = true := by
  rw [List.any_eq_true]
  refine ⟨p, List.mem_of_getElem? (i := j) (by rw [List.getElem?_take, if_pos hj]; exact hp), by simp [he]⟩
theorem rp_bad {n : Nat} {l : List PR} {i : Nat} {p : PR} (hp : l[i]? = some p) (hb : okR n p = false) : rpV n l = false := by
  refine rpT_false (List.getElem?_eq_some_iff.1 hp).1 ?_
  unfold rpT
  rw [hp]
  simp [hb]
theorem rp_dup {n : Nat} {l : List PR} {i : Nat} {p : PR} (hp : l[i]? = some p) (hb : (l.take i).any (fun q => decide (q.k = p.k)) = true) : rpV n l = false := by
  refine rpT_false (List.getElem?_eq_some_iff.1 hp).1 ?_
  have : earlier l i = true := by
    unfold earlier
    rw [hp]
    exact hb
  unfold rpT
  rw [this]
  simp
theorem rp_step {n : Nat} {l : List PR} {i : Nat} {p : PR} (h : rpT n l i = true) (hp : l[i]? = some p) (ho : okR n p = true) (hb : (l.take i).any (fun q => decide (q.k = p.k)) = false) : rpT n l (i + 1) = true := by
  have : earlier l i = false := by
    unfold earlier
    rw [hp]
    exact hb
  unfold rpT
  rw [this, h, hp]
  simp [ho]
set_option maxHeartbeats 4000000 in
set_option maxRecDepth 100000 in
theorem props17 (s : SH) (SA : Option Addr) (sc n : Nat) (w : World) (hR : ReadsP w SA s.ps) (hz : s.ps.length ≤ 733007751850) : Calls Tryd.prog 17 #[s.agg SA sc, .int .i64 (n : Nat)] w fun e w' => e = .returned (.bool (rpV n s.ps)) ∧ Below w.heap.size w w' := by
  have LL := hide (Hq.nil w [])
  have HR := hide hR
  have HZ := hide hz
  unfold SH.agg
  clear hR hz
  go_enter Tryd.func17, Tryd.ntmps17
  go_wp2_with (first | go_skip | ((with_reducible show wpList _ _ _ _ _ _); first | ((refine bx 28 (s.cs SA sc) (by rfl) rfl rfl rfl (Nat.succ_pos _) (unhide LL) ?_); intro X1 B1 hE1 L1 hb1; have hB1 := hide (Nat.le_trans (unhide LL).fr.size (Nat.le_of_eq hE1.symm)); replace LL := hide L1; clear L1 hb1 hE1; simp only [Act.put, List.setIfInBounds_toArray, List.set_cons_succ, List.set_cons_zero]) | ((refine rd (by rfl) (ex_load1 26 Tryd.isAgg26 rfl rfl ((unhide LL).get 0 rfl) rfl) ?_); simp only [Act.put, List.setIfInBounds_toArray, List.set_cons_succ, List.set_cons_zero]) | ((refine rd (by rfl) (ex_lenG 26 46 Tryd.underlying26 rfl rfl) ?_); simp only [Act.put, List.setIfInBounds_toArray, List.set_cons_succ, List.set_cons_zero]) | ((refine rd (by rfl) (ex_indexG 26 20 i und26 idx26 rfl rfl rfl (unhide HLT)) ?_); simp only [Act.put, List.setIfInBounds_toArray, List.set_cons_succ, List.set_cons_zero]) | ((refine rd (by rfl) (ex_loadR (vs := p.cs) 46 20 row46 siz46 rfl rfl (unhide HA2 _ (unhide LL).fr) rfl) ?_); simp only [Act.put, List.setIfInBounds_toArray, List.set_cons_succ, List.set_cons_zero]) | ((refine alG 46 (zeroP.cs) (by rfl) rfl (fun w => by kernel_rfl) (Nat.succ_pos _) (unhide LL) ?_); intro X3 B3 hE3 L3 hb3; have hB3 := hide (Nat.le_trans (unhide LL).fr.size (Nat.le_of_eq hE3.symm)); replace LL := hide L3; clear L3 hb3 hE3; simp only [Act.put, List.setIfInBounds_toArray, List.set_cons_succ, List.set_cons_zero]) | ((refine st (vs := p.cs) 1 46 (by rfl) rfl rfl rfl rfl (pcs_one p) (siz46) (unhide LL) rfl (by simp [cput, PR.cs, SH.cs, VV.cs, KK.cs, DD.cs]) (Or.inr (unhide hB3)) ?_); intro X4 L4 hf4 hs4; replace LL := hide L4; clear L4 hf4 hs4; simp only [Act.put, List.setIfInBounds_toArray, List.set_cons_succ, List.set_cons_zero]) | ((refine rd (by rfl) (ex_loadN (vs := p.k.cs) 41 2 row41 siz41 rfl rfl ((unhide LL).get 1 rfl) rfl rfl) ?_); simp only [Act.put, List.setIfInBounds_toArray, List.set_cons_succ, List.set_cons_zero]) | ((refine rd (by rfl) (ex_loadN (vs := p.d.cs) 44 18 row44 siz44 rfl rfl ((unhide LL).get 1 rfl) rfl rfl) ?_); simp only [Act.put, List.setIfInBounds_toArray, List.set_cons_succ, List.set_cons_zero]) | ((refine rd (by rfl) (ex_loadN (vs := p.d.v.cs) 25 5 row25 siz25 rfl rfl ((unhide LL).get 1 rfl) rfl rfl) ?_); simp only [Act.put, List.setIfInBounds_toArray, List.set_cons_succ, List.set_cons_zero]) | ((refine rd (by rfl) (ex_loadN (vs := p.d.g.cs) 25 5 row25 siz25 rfl rfl ((unhide LL).get 1 rfl) rfl rfl) ?_); simp only [Act.put, List.setIfInBounds_toArray, List.set_cons_succ, List.set_cons_zero]) | ((refine rd (by rfl) (ex_loadN (vs := p.d.s.cs) 25 5 row25 siz25 rfl rfl ((unhide LL).get 1 rfl) rfl rfl) ?_); simp only [Act.put, List.setIfInBounds_toArray, List.set_cons_succ, List.set_cons_zero])))
  go_loopg [5] s.ps.length (fun gm s5 wr => ∃ i : Nat, s5 = .int .i64 (i : Nat) ∧ i ≤ s.ps.length ∧ s.ps.length - i ≤ gm ∧ Hid (rpT n s.ps i = true) ∧ Hid (Hq w wr [] [(B1, s.cs SA sc)]))
  case atStart => exact ⟨0, rfl, by omega, by omega, hide rfl, LL⟩
  case round =>
    clear LL
    obtain ⟨i, rfl, hil, hgm, HD, LL⟩ := hrel
    by_cases hlt : i < s.ps.length
    · have dlt : decide ((i : Int) < (s.ps.length : Int)) = true := decide_eq_true (by omega)
      have hw1 : IntKind.i64.wrap ((i : Int) + 1) = (i : Int) + 1 := by have := unhide HZ; rw [IntKind.wrap_i64]; omega
      obtain ⟨p, hp⟩ : ∃ p, s.ps[i]? = some p := ⟨_, List.getElem?_eq_getElem hlt⟩
      obtain ⟨hok0, b, off, hA, hb, hrg⟩ := (unhide HR) i p hp
      subst hA
      have HA2 : Hid (∀ X, Fr w X [] → X.rangeAt b (off + i * 20) p.cs) := hide (fun X hX => rangeAt_fr hrg hb hX)
      have HLT := hide hlt
      clear hb hrg hlt hil
      have HG := hide (refGoodK p.k)
      have HW := hide (refWhole p.d hok0.1)
      have HV1 := hide (rvalue_any p.d.v n)
      have HV2 := hide (rvalue_any p.d.g n)
      have HV3 := hide (rvalue_any p.d.s n)
      rw [kagg] at HG
      rw [dagg] at HW
      rw [vagg] at HV1 HV2 HV3
      have hok : okR n p = (goodK p.k && rwhoV p.d && vRef p.d.v n && vRef p.d.g n && vRef p.d.s n) := rfl
      generalize goodK p.k = g1 at *
      generalize rwhoV p.d = g2 at *
      generalize vRef p.d.v n = g3 at *
      generalize vRef p.d.g n = g4 at *
      generalize vRef p.d.s n = g5 at *
      clear hok0
      cases g1
      · replace hok : okR n p = false := hok.trans (by simp)
        have HFA : Hid (rpV n s.ps = false) := hide (rp_bad hp hok)
        clear hp hok
        go_wp2_with (first | go_skip | ((with_reducible show wpList _ _ _ _ _ _); first | ((refine bx 28 (s.cs SA sc) (by rfl) rfl rfl rfl (Nat.succ_pos _) (unhide LL) ?_); intro X1 B1 hE1 L1 hb1; have hB1 := hide (Nat.le_trans (unhide LL).fr.size (Nat.le_of_eq hE1.symm)); replace LL := hide L1; clear L1 hb1 hE1; simp only [Act.put, List.setIfInBounds_toArray, List.set_cons_succ, List.set_cons_zero]) | ((refine rd (by rfl) (ex_load1 26 Tryd.isAgg26 rfl rfl ((unhide LL).get 0 rfl) rfl) ?_); simp only [Act.put, List.setIfInBounds_toArray, List.set_cons_succ, List.set_cons_zero]) | ((refine rd (by rfl) (ex_lenG 26 46 Tryd.underlying26 rfl rfl) ?_); simp only [Act.put, List.setIfInBounds_toArray, List.set_cons_succ, List.set_cons_zero]) | ((refine rd (by rfl) (ex_indexG 26 20 i und26 idx26 rfl rfl rfl (unhide HLT)) ?_); simp only [Act.put, List.setIfInBounds_toArray, List.set_cons_succ, List.set_cons_zero]) | ((refine rd (by rfl) (ex_loadR (vs := p.cs) 46 20 row46 siz46 rfl rfl (unhide HA2 _ (unhide LL).fr) rfl) ?_); simp only [Act.put, List.setIfInBounds_toArray, List.set_cons_succ, List.set_cons_zero]) | ((refine alG 46 (zeroP.cs) (by rfl) rfl (fun w => by kernel_rfl) (Nat.succ_pos _) (unhide LL) ?_); intro X3 B3 hE3 L3 hb3; have hB3 := hide (Nat.le_trans (unhide LL).fr.size (Nat.le_of_eq hE3.symm)); replace LL := hide L3; clear L3 hb3 hE3; simp only [Act.put, List.setIfInBounds_toArray, List.set_cons_succ, List.set_cons_zero]) | ((refine st (vs := p.cs) 1 46 (by rfl) rfl rfl rfl rfl (pcs_one p) (siz46) (unhide LL) rfl (by simp [cput, PR.cs, SH.cs, VV.cs, KK.cs, DD.cs]) (Or.inr (unhide hB3)) ?_); intro X4 L4 hf4 hs4; replace LL := hide L4; clear L4 hf4 hs4; simp only [Act.put, List.setIfInBounds_toArray, List.set_cons_succ, List.set_cons_zero]) | ((refine rd (by rfl) (ex_loadN (vs := p.k.cs) 41 2 row41 siz41 rfl rfl ((unhide LL).get 1 rfl) rfl rfl) ?_); simp only [Act.put, List.setIfInBounds_toArray, List.set_cons_succ, List.set_cons_zero]) | ((refine rd (by rfl) (ex_loadN (vs := p.d.cs) 44 18 row44 siz44 rfl rfl ((unhide LL).get 1 rfl) rfl rfl) ?_); simp only [Act.put, List.setIfInBounds_toArray, List.set_cons_succ, List.set_cons_zero]) | ((refine rd (by rfl) (ex_loadN (vs := p.d.v.cs) 25 5 row25 siz25 rfl rfl ((unhide LL).get 1 rfl) rfl rfl) ?_); simp only [Act.put, List.setIfInBounds_toArray, List.set_cons_succ, List.set_cons_zero]) | ((refine rd (by rfl) (ex_loadN (vs := p.d.g.cs) 25 5 row25 siz25 rfl rfl ((unhide LL).get 1 rfl) rfl rfl) ?_); simp only [Act.put, List.setIfInBounds_toArray, List.set_cons_succ, List.set_cons_zero]) | ((refine rd (by rfl) (ex_loadN (vs := p.d.s.cs) 25 5 row25 siz25 rfl rfl ((unhide LL).get 1 rfl) rfl rfl) ?_); simp only [Act.put, List.setIfInBounds_toArray, List.set_cons_succ, List.set_cons_zero])))
        refine (unhide HG _).mono ?_
        rintro e X5 ⟨rfl, hb⟩
        replace LL := hide ((unhide LL).on hb)
        clear hb
        go_wp2
        go_ret
        exact ⟨by rw [unhide HFA]; rfl, (unhide LL).fr.below⟩
      · cases g2
        · replace hok : okR n p = false := hok.trans (by simp)
          have HFA : Hid (rpV n s.ps = false) := hide (rp_bad hp hok)
          clear hp hok
          go_wp2_with (first | go_skip | ((with_reducible show wpList _ _ _ _ _ _); first | ((refine bx 28 (s.cs SA sc) (by rfl) rfl rfl rfl (Nat.succ_pos _) (unhide LL) ?_); intro X1 B1 hE1 L1 hb1; have hB1 := hide (Nat.le_trans (unhide LL).fr.size (Nat.le_of_eq hE1.symm)); replace LL := hide L1; clear L1 hb1 hE1; simp only [Act.put, List.setIfInBounds_toArray, List.set_cons_succ, List.set_cons_zero]) | ((refine rd (by rfl) (ex_load1 26 Tryd.isAgg26 rfl rfl ((unhide LL).get 0 rfl) rfl) ?_); simp only [Act.put, List.setIfInBounds_toArray, List.set_cons_succ, List.set_cons_zero]) | ((refine rd (by rfl) (ex_lenG 26 46 Tryd.underlying26 rfl rfl) ?_); simp only [Act.put, List.setIfInBounds_toArray, List.set_cons_succ, List.set_cons_zero]) | ((refine rd (by rfl) (ex_indexG 26 20 i und26 idx26 rfl rfl rfl (unhide HLT)) ?_); simp only [Act.put, List.setIfInBounds_toArray, List.set_cons_succ, List.set_cons_zero]) | ((refine rd (by rfl) (ex_loadR (vs := p.cs) 46 20 row46 siz46 rfl rfl (unhide HA2 _ (unhide LL).fr) rfl) ?_); simp only [Act.put, List.setIfInBounds_toArray, List.set_cons_succ, List.set_cons_zero]) | ((refine alG 46 (zeroP.cs) (by rfl) rfl (fun w => by kernel_rfl) (Nat.succ_pos _) (unhide LL) ?_); intro X3 B3 hE3 L3 hb3; have hB3 := hide (Nat.le_trans (unhide LL).fr.size (Nat.le_of_eq hE3.symm)); replace LL := hide L3; clear L3 hb3 hE3; simp only [Act.put, List.setIfInBounds_toArray, List.set_cons_succ, List.set_cons_zero]) | ((refine st (vs := p.cs) 1 46 (by rfl) rfl rfl rfl rfl (pcs_one p) (siz46) (unhide LL) rfl (by simp [cput, PR.cs, SH.cs, VV.cs, KK.cs, DD.cs]) (Or.inr (unhide hB3)) ?_); intro X4 L4 hf4 hs4; replace LL := hide L4; clear L4 hf4 hs4; simp only [Act.put, List.setIfInBounds_toArray, List.set_cons_succ, List.set_cons_zero]) | ((refine rd (by rfl) (ex_loadN (vs := p.k.cs) 41 2 row41 siz41 rfl rfl ((unhide LL).get 1 rfl) rfl rfl) ?_); simp only [Act.put, List.setIfInBounds_toArray, List.set_cons_succ, List.set_cons_zero]) | ((refine rd (by rfl) (ex_loadN (vs := p.d.cs) 44 18 row44 siz44 rfl rfl ((unhide LL).get 1 rfl) rfl rfl) ?_); simp only [Act.put, List.setIfInBounds_toArray, List.set_cons_succ, List.set_cons_zero]) | ((refine rd (by rfl) (ex_loadN (vs := p.d.v.cs) 25 5 row25 siz25 rfl rfl ((unhide LL).get 1 rfl) rfl rfl) ?_); simp only [Act.put, List.setIfInBounds_toArray, List.set_cons_succ, List.set_cons_zero]) | ((refine rd (by rfl) (ex_loadN (vs := p.d.g.cs) 25 5 row25 siz25 rfl rfl ((unhide LL).get 1 rfl) rfl rfl) ?_); simp only [Act.put, List.setIfInBounds_toArray, List.set_cons_succ, List.set_cons_zero]) | ((refine rd (by rfl) (ex_loadN (vs := p.d.s.cs) 25 5 row25 siz25 rfl rfl ((unhide LL).get 1 rfl) rfl rfl) ?_); simp only [Act.put, List.setIfInBounds_toArray, List.set_cons_succ, List.set_cons_zero])))
          refine (unhide HG _).mono ?_
          rintro e X5 ⟨rfl, hb⟩
          replace LL := hide ((unhide LL).on hb)
          clear hb
          go_wp2_with (first | go_skip | ((with_reducible show wpList _ _ _ _ _ _); first | ((refine bx 28 (s.cs SA sc) (by rfl) rfl rfl rfl (Nat.succ_pos _) (unhide LL) ?_); intro X1 B1 hE1 L1 hb1; have hB1 := hide (Nat.le_trans (unhide LL).fr.size (Nat.le_of_eq hE1.symm)); replace LL := hide L1; clear L1 hb1 hE1; simp only [Act.put, List.setIfInBounds_toArray, List.set_cons_succ, List.set_cons_zero]) | ((refine rd (by rfl) (ex_load1 26 Tryd.isAgg26 rfl rfl ((unhide LL).get 0 rfl) rfl) ?_); simp only [Act.put, List.setIfInBounds_toArray, List.set_cons_succ, List.set_cons_zero]) | ((refine rd (by rfl) (ex_lenG 26 46 Tryd.underlying26 rfl rfl) ?_); simp only [Act.put, List.setIfInBounds_toArray, List.set_cons_succ, List.set_cons_zero]) | ((refine rd (by rfl) (ex_indexG 26 20 i und26 idx26 rfl rfl rfl (unhide HLT)) ?_); simp only [Act.put, List.setIfInBounds_toArray, List.set_cons_succ, List.set_cons_zero]) | ((refine rd (by rfl) (ex_loadR (vs := p.cs) 46 20 row46 siz46 rfl rfl (unhide HA2 _ (unhide LL).fr) rfl) ?_); simp only [Act.put, List.setIfInBounds_toArray, List.set_cons_succ, List.set_cons_zero]) | ((refine alG 46 (zeroP.cs) (by rfl) rfl (fun w => by kernel_rfl) (Nat.succ_pos _) (unhide LL) ?_); intro X3 B3 hE3 L3 hb3; have hB3 := hide (Nat.le_trans (unhide LL).fr.size (Nat.le_of_eq hE3.symm)); replace LL := hide L3; clear L3 hb3 hE3; simp only [Act.put, List.setIfInBounds_toArray, List.set_cons_succ, List.set_cons_zero]) | ((refine st (vs := p.cs) 1 46 (by rfl) rfl rfl rfl rfl (pcs_one p) (siz46) (unhide LL) rfl (by simp [cput, PR.cs, SH.cs, VV.cs, KK.cs, DD.cs]) (Or.inr (unhide hB3)) ?_); intro X4 L4 hf4 hs4; replace LL := hide L4; clear L4 hf4 hs4; simp only [Act.put, List.setIfInBounds_toArray, List.set_cons_succ, List.set_cons_zero]) | ((refine rd (by rfl) (ex_loadN (vs := p.k.cs) 41 2 row41 siz41 rfl rfl ((unhide LL).get 1 rfl) rfl rfl) ?_); simp only [Act.put, List.setIfInBounds_toArray, List.set_cons_succ, List.set_cons_zero]) | ((refine rd (by rfl) (ex_loadN (vs := p.d.cs) 44 18 row44 siz44 rfl rfl ((unhide LL).get 1 rfl) rfl rfl) ?_); simp only [Act.put, List.setIfInBounds_toArray, List.set_cons_succ, List.set_cons_zero]) | ((refine rd (by rfl) (ex_loadN (vs := p.d.v.cs) 25 5 row25 siz25 rfl rfl ((unhide LL).get 1 rfl) rfl rfl) ?_); simp only [Act.put, List.setIfInBounds_toArray, List.set_cons_succ, List.set_cons_zero]) | ((refine rd (by rfl) (ex_loadN (vs := p.d.g.cs) 25 5 row25 siz25 rfl rfl ((unhide LL).get 1 rfl) rfl rfl) ?_); simp only [Act.put, List.setIfInBounds_toArray, List.set_cons_succ, List.set_cons_zero]) | ((refine rd (by rfl) (ex_loadN (vs := p.d.s.cs) 25 5 row25 siz25 rfl rfl ((unhide LL).get 1 rfl) rfl rfl) ?_); simp only [Act.put, List.setIfInBounds_toArray, List.set_cons_succ, List.set_cons_zero])))
          refine (unhide HW _).mono ?_
          rintro e X5 ⟨rfl, hb⟩
          replace LL := hide ((unhide LL).on hb)
          clear hb
          go_wp2
          go_ret
          exact ⟨by rw [unhide HFA]; rfl, (unhide LL).fr.below⟩
        · cases g3
          · replace hok : okR n p = false := hok.trans (by simp)
            have HFA : Hid (rpV n s.ps = false) := hide (rp_bad hp hok)
            clear hp hok
            go_wp2_with (first | go_skip | ((with_reducible show wpList _ _ _ _ _ _); first | ((refine bx 28 (s.cs SA sc) (by rfl) rfl rfl rfl (Nat.succ_pos _) (unhide LL) ?_); intro X1 B1 hE1 L1 hb1; have hB1 := hide (Nat.le_trans (unhide LL).fr.size (Nat.le_of_eq hE1.symm)); replace LL := hide L1; clear L1 hb1 hE1; simp only [Act.put, List.setIfInBounds_toArray, List.set_cons_succ, List.set_cons_zero]) | ((refine rd (by rfl) (ex_load1 26 Tryd.isAgg26 rfl rfl ((unhide LL).get 0 rfl) rfl) ?_); simp only [Act.put, List.setIfInBounds_toArray, List.set_cons_succ, List.set_cons_zero]) | ((refine rd (by rfl) (ex_lenG 26 46 Tryd.underlying26 rfl rfl) ?_); simp only [Act.put, List.setIfInBounds_toArray, List.set_cons_succ, List.set_cons_zero]) | ((refine rd (by rfl) (ex_indexG 26 20 i und26 idx26 rfl rfl rfl (unhide HLT)) ?_); simp only [Act.put, List.setIfInBounds_toArray, List.set_cons_succ, List.set_cons_zero]) | ((refine rd (by rfl) (ex_loadR (vs := p.cs) 46 20 row46 siz46 rfl rfl (unhide HA2 _ (unhide LL).fr) rfl) ?_); simp only [Act.put, List.setIfInBounds_toArray, List.set_cons_succ, List.set_cons_zero]) | ((refine alG 46 (zeroP.cs) (by rfl) rfl (fun w => by kernel_rfl) (Nat.succ_pos _) (unhide LL) ?_); intro X3 B3 hE3 L3 hb3; have hB3 := hide (Nat.le_trans (unhide LL).fr.size (Nat.le_of_eq hE3.symm)); replace LL := hide L3; clear L3 hb3 hE3; simp only [Act.put, List.setIfInBounds_toArray, List.set_cons_succ, List.set_cons_zero]) | ((refine st (vs := p.cs) 1 46 (by rfl) rfl rfl rfl rfl (pcs_one p) (siz46) (unhide LL) rfl (by simp [cput, PR.cs, SH.cs, VV.cs, KK.cs, DD.cs]) (Or.inr (unhide hB3)) ?_); intro X4 L4 hf4 hs4; replace LL := hide L4; clear L4 hf4 hs4; simp only [Act.put, List.setIfInBounds_toArray, List.set_cons_succ, List.set_cons_zero]) | ((refine rd (by rfl) (ex_loadN (vs := p.k.cs) 41 2 row41 siz41 rfl rfl ((unhide LL).get 1 rfl) rfl rfl) ?_); simp only [Act.put, List.setIfInBounds_toArray, List.set_cons_succ, List.set_cons_zero]) | ((refine rd (by rfl) (ex_loadN (vs := p.d.cs) 44 18 row44 siz44 rfl rfl ((unhide LL).get 1 rfl) rfl rfl) ?_); simp only [Act.put, List.setIfInBounds_toArray, List.set_cons_succ, List.set_cons_zero]) | ((refine rd (by rfl) (ex_loadN (vs := p.d.v.cs) 25 5 row25 siz25 rfl rfl ((unhide LL).get 1 rfl) rfl rfl) ?_); simp only [Act.put, List.setIfInBounds_toArray, List.set_cons_succ, List.set_cons_zero]) | ((refine rd (by rfl) (ex_loadN (vs := p.d.g.cs) 25 5 row25 siz25 rfl rfl ((unhide LL).get 1 rfl) rfl rfl) ?_); simp only [Act.put, List.setIfInBounds_toArray, List.set_cons_succ, List.set_cons_zero]) | ((refine rd (by rfl) (ex_loadN (vs := p.d.s.cs) 25 5 row25 siz25 rfl rfl ((unhide LL).get 1 rfl) rfl rfl) ?_); simp only [Act.put, List.setIfInBounds_toArray, List.set_cons_succ, List.set_cons_zero])))
            refine (unhide HG _).mono ?_
            rintro e X5 ⟨rfl, hb⟩
            replace LL := hide ((unhide LL).on hb)
            clear hb
            go_wp2_with (first | go_skip | ((with_reducible show wpList _ _ _ _ _ _); first | ((refine bx 28 (s.cs SA sc) (by rfl) rfl rfl rfl (Nat.succ_pos _) (unhide LL) ?_); intro X1 B1 hE1 L1 hb1; have hB1 := hide (Nat.le_trans (unhide LL).fr.size (Nat.le_of_eq hE1.symm)); replace LL := hide L1; clear L1 hb1 hE1; simp only [Act.put, List.setIfInBounds_toArray, List.set_cons_succ, List.set_cons_zero]) | ((refine rd (by rfl) (ex_load1 26 Tryd.isAgg26 rfl rfl ((unhide LL).get 0 rfl) rfl) ?_); simp only [Act.put, List.setIfInBounds_toArray, List.set_cons_succ, List.set_cons_zero]) | ((refine rd (by rfl) (ex_lenG 26 46 Tryd.underlying26 rfl rfl) ?_); simp only [Act.put, List.setIfInBounds_toArray, List.set_cons_succ, List.set_cons_zero]) | ((refine rd (by rfl) (ex_indexG 26 20 i und26 idx26 rfl rfl rfl (unhide HLT)) ?_); simp only [Act.put, List.setIfInBounds_toArray, List.set_cons_succ, List.set_cons_zero]) | ((refine rd (by rfl) (ex_loadR (vs := p.cs) 46 20 row46 siz46 rfl rfl (unhide HA2 _ (unhide LL).fr) rfl) ?_); simp only [Act.put, List.setIfInBounds_toArray, List.set_cons_succ, List.set_cons_zero]) | ((refine alG 46 (zeroP.cs) (by rfl) rfl (fun w => by kernel_rfl) (Nat.succ_pos _) (unhide LL) ?_); intro X3 B3 hE3 L3 hb3; have hB3 := hide (Nat.le_trans (unhide LL).fr.size (Nat.le_of_eq hE3.symm)); replace LL := hide L3; clear L3 hb3 hE3; simp only [Act.put, List.setIfInBounds_toArray, List.set_cons_succ, List.set_cons_zero]) | ((refine st (vs := p.cs) 1 46 (by rfl) rfl rfl rfl rfl (pcs_one p) (siz46) (unhide LL) rfl (by simp [cput, PR.cs, SH.cs, VV.cs, KK.cs, DD.cs]) (Or.inr (unhide hB3)) ?_); intro X4 L4 hf4 hs4; replace LL := hide L4; clear L4 hf4 hs4; simp only [Act.put, List.setIfInBounds_toArray, List.set_cons_succ, List.set_cons_zero]) | ((refine rd (by rfl) (ex_loadN (vs := p.k.cs) 41 2 row41 siz41 rfl rfl ((unhide LL).get 1 rfl) rfl rfl) ?_); simp only [Act.put, List.setIfInBounds_toArray, List.set_cons_succ, List.set_cons_zero]) | ((refine rd (by rfl) (ex_loadN (vs := p.d.cs) 44 18 row44 siz44 rfl rfl ((unhide LL).get 1 rfl) rfl rfl) ?_); simp only [Act.put, List.setIfInBounds_toArray, List.set_cons_succ, List.set_cons_zero]) | ((refine rd (by rfl) (ex_loadN (vs := p.d.v.cs) 25 5 row25 siz25 rfl rfl ((unhide LL).get 1 rfl) rfl rfl) ?_); simp only [Act.put, List.setIfInBounds_toArray, List.set_cons_succ, List.set_cons_zero]) | ((refine rd (by rfl) (ex_loadN (vs := p.d.g.cs) 25 5 row25 siz25 rfl rfl ((unhide LL).get 1 rfl) rfl rfl) ?_); simp only [Act.put, List.setIfInBounds_toArray, List.set_cons_succ, List.set_cons_zero]) | ((refine rd (by rfl) (ex_loadN (vs := p.d.s.cs) 25 5 row25 siz25 rfl rfl ((unhide LL).get 1 rfl) rfl rfl) ?_); simp only [Act.put, List.setIfInBounds_toArray, List.set_cons_succ, List.set_cons_zero])))
            refine (unhide HW _).mono ?_
            rintro e X5 ⟨rfl, hb⟩
            replace LL := hide ((unhide LL).on hb)
            clear hb
            go_wp2_with (first | go_skip | ((with_reducible show wpList _ _ _ _ _ _); first | ((refine bx 28 (s.cs SA sc) (by rfl) rfl rfl rfl (Nat.succ_pos _) (unhide LL) ?_); intro X1 B1 hE1 L1 hb1; have hB1 := hide (Nat.le_trans (unhide LL).fr.size (Nat.le_of_eq hE1.symm)); replace LL := hide L1; clear L1 hb1 hE1; simp only [Act.put, List.setIfInBounds_toArray, List.set_cons_succ, List.set_cons_zero]) | ((refine rd (by rfl) (ex_load1 26 Tryd.isAgg26 rfl rfl ((unhide LL).get 0 rfl) rfl) ?_); simp only [Act.put, List.setIfInBounds_toArray, List.set_cons_succ, List.set_cons_zero]) | ((refine rd (by rfl) (ex_lenG 26 46 Tryd.underlying26 rfl rfl) ?_); simp only [Act.put, List.setIfInBounds_toArray, List.set_cons_succ, List.set_cons_zero]) | ((refine rd (by rfl) (ex_indexG 26 20 i und26 idx26 rfl rfl rfl (unhide HLT)) ?_); simp only [Act.put, List.setIfInBounds_toArray, List.set_cons_succ, List.set_cons_zero]) | ((refine rd (by rfl) (ex_loadR (vs := p.cs) 46 20 row46 siz46 rfl rfl (unhide HA2 _ (unhide LL).fr) rfl) ?_); simp only [Act.put, List.setIfInBounds_toArray, List.set_cons_succ, List.set_cons_zero]) | ((refine alG 46 (zeroP.cs) (by rfl) rfl (fun w => by kernel_rfl) (Nat.succ_pos _) (unhide LL) ?_); intro X3 B3 hE3 L3 hb3; have hB3 := hide (Nat.le_trans (unhide LL).fr.size (Nat.le_of_eq hE3.symm)); replace LL := hide L3; clear L3 hb3 hE3; simp only [Act.put, List.setIfInBounds_toArray, List.set_cons_succ, List.set_cons_zero]) | ((refine st (vs := p.cs) 1 46 (by rfl) rfl rfl rfl rfl (pcs_one p) (siz46) (unhide LL) rfl (by simp [cput, PR.cs, SH.cs, VV.cs, KK.cs, DD.cs]) (Or.inr (unhide hB3)) ?_); intro X4 L4 hf4 hs4; replace LL := hide L4; clear L4 hf4 hs4; simp only [Act.put, List.setIfInBounds_toArray, List.set_cons_succ, List.set_cons_zero]) | ((refine rd (by rfl) (ex_loadN (vs := p.k.cs) 41 2 row41 siz41 rfl rfl ((unhide LL).get 1 rfl) rfl rfl) ?_); simp only [Act.put, List.setIfInBounds_toArray, List.set_cons_succ, List.set_cons_zero]) | ((refine rd (by rfl) (ex_loadN (vs := p.d.cs) 44 18 row44 siz44 rfl rfl ((unhide LL).get 1 rfl) rfl rfl) ?_); simp only [Act.put, List.setIfInBounds_toArray, List.set_cons_succ, List.set_cons_zero]) | ((refine rd (by rfl) (ex_loadN (vs := p.d.v.cs) 25 5 row25 siz25 rfl rfl ((unhide LL).get 1 rfl) rfl rfl) ?_); simp only [Act.put, List.setIfInBounds_toArray, List.set_cons_succ, List.set_cons_zero]) | ((refine rd (by rfl) (ex_loadN (vs := p.d.g.cs) 25 5 row25 siz25 rfl rfl ((unhide LL).get 1 rfl) rfl rfl) ?_); simp only [Act.put, List.setIfInBounds_toArray, List.set_cons_succ, List.set_cons_zero]) | ((refine rd (by rfl) (ex_loadN (vs := p.d.s.cs) 25 5 row25 siz25 rfl rfl ((unhide LL).get 1 rfl) rfl rfl) ?_); simp only [Act.put, List.setIfInBounds_toArray, List.set_cons_succ, List.set_cons_zero])))
            refine (unhide HV1 _).mono ?_
            rintro e X5 ⟨rfl, hb⟩
            replace LL := hide ((unhide LL).on hb)
            clear hb
            go_wp2
            go_ret
            exact ⟨by rw [unhide HFA]; rfl, (unhide LL).fr.below⟩
          · cases g4
            · replace hok : okR n p = false := hok.trans (by simp)
              have HFA : Hid (rpV n s.ps = false) := hide (rp_bad hp hok)
              clear hp hok
              go_wp2_with (first | go_skip | ((with_reducible show wpList _ _ _ _ _ _); first | ((refine bx 28 (s.cs SA sc) (by rfl) rfl rfl rfl (Nat.succ_pos _) (unhide LL) ?_); intro X1 B1 hE1 L1 hb1; have hB1 := hide (Nat.le_trans (unhide LL).fr.size (Nat.le_of_eq hE1.symm)); replace LL := hide L1; clear L1 hb1 hE1; simp only [Act.put, List.setIfInBounds_toArray, List.set_cons_succ, List.set_cons_zero]) | ((refine rd (by rfl) (ex_load1 26 Tryd.isAgg26 rfl rfl ((unhide LL).get 0 rfl) rfl) ?_); simp only [Act.put, List.setIfInBounds_toArray, List.set_cons_succ, List.set_cons_zero]) | ((refine rd (by rfl) (ex_lenG 26 46 Tryd.underlying26 rfl rfl) ?_); simp only [Act.put, List.setIfInBounds_toArray, List.set_cons_succ, List.set_cons_zero]) | ((refine rd (by rfl) (ex_indexG 26 20 i und26 idx26 rfl rfl rfl (unhide HLT)) ?_); simp only [Act.put, List.setIfInBounds_toArray, List.set_cons_succ, List.set_cons_zero]) | ((refine rd (by rfl) (ex_loadR (vs := p.cs) 46 20 row46 siz46 rfl rfl (unhide HA2 _ (unhide LL).fr) rfl) ?_); simp only [Act.put, List.setIfInBounds_toArray, List.set_cons_succ, List.set_cons_zero]) | ((refine alG 46 (zeroP.cs) (by rfl) rfl (fun w => by kernel_rfl) (Nat.succ_pos _) (unhide LL) ?_); intro X3 B3 hE3 L3 hb3; have hB3 := hide (Nat.le_trans (unhide LL).fr.size (Nat.le_of_eq hE3.symm)); replace LL := hide L3; clear L3 hb3 hE3; simp only [Act.put, List.setIfInBounds_toArray, List.set_cons_succ, List.set_cons_zero]) | ((refine st (vs := p.cs) 1 46 (by rfl) rfl rfl rfl rfl (pcs_one p) (siz46) (unhide LL) rfl (by simp [cput, PR.cs, SH.cs, VV.cs, KK.cs, DD.cs]) (Or.inr (unhide hB3)) ?_); intro X4 L4 hf4 hs4; replace LL := hide L4; clear L4 hf4 hs4; simp only [Act.put, List.setIfInBounds_toArray, List.set_cons_succ, List.set_cons_zero]) | ((refine rd (by rfl) (ex_loadN (vs := p.k.cs) 41 2 row41 siz41 rfl rfl ((unhide LL).get 1 rfl) rfl rfl) ?_); simp only [Act.put, List.setIfInBounds_toArray, List.set_cons_succ, List.set_cons_zero]) | ((refine rd (by rfl) (ex_loadN (vs := p.d.cs) 44 18 row44 siz44 rfl rfl ((unhide LL).get 1 rfl) rfl rfl) ?_); simp only [Act.put, List.setIfInBounds_toArray, List.set_cons_succ, List.set_cons_zero]) | ((refine rd (by rfl) (ex_loadN (vs := p.d.v.cs) 25 5 row25 siz25 rfl rfl ((unhide LL).get 1 rfl) rfl rfl) ?_); simp only [Act.put, List.setIfInBounds_toArray, List.set_cons_succ, List.set_cons_zero]) | ((refine rd (by rfl) (ex_loadN (vs := p.d.g.cs) 25 5 row25 siz25 rfl rfl ((unhide LL).get 1 rfl) rfl rfl) ?_); simp only [Act.put, List.setIfInBounds_toArray, List.set_cons_succ, List.set_cons_zero]) | ((refine rd (by rfl) (ex_loadN (vs := p.d.s.cs) 25 5 row25 siz25 rfl rfl ((unhide LL).get 1 rfl) rfl rfl) ?_); simp only [Act.put, List.setIfInBounds_toArray, List.set_cons_succ, List.set_cons_zero])))
              refine (unhide HG _).mono ?_
              rintro e X5 ⟨rfl, hb⟩
              replace LL := hide ((unhide LL).on hb)
              clear hb
              go_wp2_with (first | go_skip | ((with_reducible show wpList _ _ _ _ _ _); first | ((refine bx 28 (s.cs SA sc) (by rfl) rfl rfl rfl (Nat.succ_pos _) (unhide LL) ?_); intro X1 B1 hE1 L1 hb1; have hB1 := hide (Nat.le_trans (unhide LL).fr.size (Nat.le_of_eq hE1.symm)); replace LL := hide L1; clear L1 hb1 hE1; simp only [Act.put, List.setIfInBounds_toArray, List.set_cons_succ, List.set_cons_zero]) | ((refine rd (by rfl) (ex_load1 26 Tryd.isAgg26 rfl rfl ((unhide LL).get 0 rfl) rfl) ?_); simp only [Act.put, List.setIfInBounds_toArray, List.set_cons_succ, List.set_cons_zero]) | ((refine rd (by rfl) (ex_lenG 26 46 Tryd.underlying26 rfl rfl) ?_); simp only [Act.put, List.setIfInBounds_toArray, List.set_cons_succ, List.set_cons_zero]) | ((refine rd (by rfl) (ex_indexG 26 20 i und26 idx26 rfl rfl rfl (unhide HLT)) ?_); simp only [Act.put, List.setIfInBounds_toArray, List.set_cons_succ, List.set_cons_zero]) | ((refine rd (by rfl) (ex_loadR (vs := p.cs) 46 20 row46 siz46 rfl rfl (unhide HA2 _ (unhide LL).fr) rfl) ?_); simp only [Act.put, List.setIfInBounds_toArray, List.set_cons_succ, List.set_cons_zero]) | ((refine alG 46 (zeroP.cs) (by rfl) rfl (fun w => by kernel_rfl) (Nat.succ_pos _) (unhide LL) ?_); intro X3 B3 hE3 L3 hb3; have hB3 := hide (Nat.le_trans (unhide LL).fr.size (Nat.le_of_eq hE3.symm)); replace LL := hide L3; clear L3 hb3 hE3; simp only [Act.put, List.setIfInBounds_toArray, List.set_cons_succ, List.set_cons_zero]) | ((refine st (vs := p.cs) 1 46 (by rfl) rfl rfl rfl rfl (pcs_one p) (siz46) (unhide LL) rfl (by simp [cput, PR.cs, SH.cs, VV.cs, KK.cs, DD.cs]) (Or.inr (unhide hB3)) ?_); intro X4 L4 hf4 hs4; replace LL := hide L4; clear L4 hf4 hs4; simp only [Act.put, List.setIfInBounds_toArray, List.set_cons_succ, List.set_cons_zero]) | ((refine rd (by rfl) (ex_loadN (vs := p.k.cs) 41 2 row41 siz41 rfl rfl ((unhide LL).get 1 rfl) rfl rfl) ?_); simp only [Act.put, List.setIfInBounds_toArray, List.set_cons_succ, List.set_cons_zero]) | ((refine rd (by rfl) (ex_loadN (vs := p.d.cs) 44 18 row44 siz44 rfl rfl ((unhide LL).get 1 rfl) rfl rfl) ?_); simp only [Act.put, List.setIfInBounds_toArray, List.set_cons_succ, List.set_cons_zero]) | ((refine rd (by rfl) (ex_loadN (vs := p.d.v.cs) 25 5 row25 siz25 rfl rfl ((unhide LL).get 1 rfl) rfl rfl) ?_); simp only [Act.put, List.setIfInBounds_toArray, List.set_cons_succ, List.set_cons_zero]) | ((refine rd (by rfl) (ex_loadN (vs := p.d.g.cs) 25 5 row25 siz25 rfl rfl ((unhide LL).get 1 rfl) rfl rfl) ?_); simp only [Act.put, List.setIfInBounds_toArray, List.set_cons_succ, List.set_cons_zero]) | ((refine rd (by rfl) (ex_loadN (vs := p.d.s.cs) 25 5 row25 siz25 rfl rfl ((unhide LL).get 1 rfl) rfl rfl) ?_); simp only [Act.put, List.setIfInBounds_toArray, List.set_cons_succ, List.set_cons_zero])))
              refine (unhide HW _).mono ?_
              rintro e X5 ⟨rfl, hb⟩
              replace LL := hide ((unhide LL).on hb)
              clear hb
              go_wp2_with (first | go_skip | ((with_reducible show wpList _ _ _ _ _ _); first | ((refine bx 28 (s.cs SA sc) (by rfl) rfl rfl rfl (Nat.succ_pos _) (unhide LL) ?_); intro X1 B1 hE1 L1 hb1; have hB1 := hide (Nat.le_trans (unhide LL).fr.size (Nat.le_of_eq hE1.symm)); replace LL := hide L1; clear L1 hb1 hE1; simp only [Act.put, List.setIfInBounds_toArray, List.set_cons_succ, List.set_cons_zero]) | ((refine rd (by rfl) (ex_load1 26 Tryd.isAgg26 rfl rfl ((unhide LL).get 0 rfl) rfl) ?_); simp only [Act.put, List.setIfInBounds_toArray, List.set_cons_succ, List.set_cons_zero]) | ((refine rd (by rfl) (ex_lenG 26 46 Tryd.underlying26 rfl rfl) ?_); simp only [Act.put, List.setIfInBounds_toArray, List.set_cons_succ, List.set_cons_zero]) | ((refine rd (by rfl) (ex_indexG 26 20 i und26 idx26 rfl rfl rfl (unhide HLT)) ?_); simp only [Act.put, List.setIfInBounds_toArray, List.set_cons_succ, List.set_cons_zero]) | ((refine rd (by rfl) (ex_loadR (vs := p.cs) 46 20 row46 siz46 rfl rfl (unhide HA2 _ (unhide LL).fr) rfl) ?_); simp only [Act.put, List.setIfInBounds_toArray, List.set_cons_succ, List.set_cons_zero]) | ((refine alG 46 (zeroP.cs) (by rfl) rfl (fun w => by kernel_rfl) (Nat.succ_pos _) (unhide LL) ?_); intro X3 B3 hE3 L3 hb3; have hB3 := hide (Nat.le_trans (unhide LL).fr.size (Nat.le_of_eq hE3.symm)); replace LL := hide L3; clear L3 hb3 hE3; simp only [Act.put, List.setIfInBounds_toArray, List.set_cons_succ, List.set_cons_zero]) | ((refine st (vs := p.cs) 1 46 (by rfl) rfl rfl rfl rfl (pcs_one p) (siz46) (unhide LL) rfl (by simp [cput, PR.cs, SH.cs, VV.cs, KK.cs, DD.cs]) (Or.inr (unhide hB3)) ?_); intro X4 L4 hf4 hs4; replace LL := hide L4; clear L4 hf4 hs4; simp only [Act.put, List.setIfInBounds_toArray, List.set_cons_succ, List.set_cons_zero]) | ((refine rd (by rfl) (ex_loadN (vs := p.k.cs) 41 2 row41 siz41 rfl rfl ((unhide LL).get 1 rfl) rfl rfl) ?_); simp only [Act.put, List.setIfInBounds_toArray, List.set_cons_succ, List.set_cons_zero]) | ((refine rd (by rfl) (ex_loadN (vs := p.d.cs) 44 18 row44 siz44 rfl rfl ((unhide LL).get 1 rfl) rfl rfl) ?_); simp only [Act.put, List.setIfInBounds_toArray, List.set_cons_succ, List.set_cons_zero]) | ((refine rd (by rfl) (ex_loadN (vs := p.d.v.cs) 25 5 row25 siz25 rfl rfl ((unhide LL).get 1 rfl) rfl rfl) ?_); simp only [Act.put, List.setIfInBounds_toArray, List.set_cons_succ, List.set_cons_zero]) | ((refine rd (by rfl) (ex_loadN (vs := p.d.g.cs) 25 5 row25 siz25 rfl rfl ((unhide LL).get 1 rfl) rfl rfl) ?_); simp only [Act.put, List.setIfInBounds_toArray, List.set_cons_succ, List.set_cons_zero]) | ((refine rd (by rfl) (ex_loadN (vs := p.d.s.cs) 25 5 row25 siz25 rfl rfl ((unhide LL).get 1 rfl) rfl rfl) ?_); simp only [Act.put, List.setIfInBounds_toArray, List.set_cons_succ, List.set_cons_zero])))
              refine (unhide HV1 _).mono ?_
              rintro e X5 ⟨rfl, hb⟩
              replace LL := hide ((unhide LL).on hb)
              clear hb
              go_wp2_with (first | go_skip | ((with_reducible show wpList _ _ _ _ _ _); first | ((refine bx 28 (s.cs SA sc) (by rfl) rfl rfl rfl (Nat.succ_pos _) (unhide LL) ?_); intro X1 B1 hE1 L1 hb1; have hB1 := hide (Nat.le_trans (unhide LL).fr.size (Nat.le_of_eq hE1.symm)); replace LL := hide L1; clear L1 hb1 hE1; simp only [Act.put, List.setIfInBounds_toArray, List.set_cons_succ, List.set_cons_zero]) | ((refine rd (by rfl) (ex_load1 26 Tryd.isAgg26 rfl rfl ((unhide LL).get 0 rfl) rfl) ?_); simp only [Act.put, List.setIfInBounds_toArray, List.set_cons_succ, List.set_cons_zero]) | ((refine rd (by rfl) (ex_lenG 26 46 Tryd.underlying26 rfl rfl) ?_); simp only [Act.put, List.setIfInBounds_toArray, List.set_cons_succ, List.set_cons_zero]) | ((refine rd (by rfl) (ex_indexG 26 20 i und26 idx26 rfl rfl rfl (unhide HLT)) ?_); simp only [Act.put, List.setIfInBounds_toArray, List.set_cons_succ, List.set_cons_zero]) | ((refine rd (by rfl) (ex_loadR (vs := p.cs) 46 20 row46 siz46 rfl rfl (unhide HA2 _ (unhide LL).fr) rfl) ?_); simp only [Act.put, List.setIfInBounds_toArray, List.set_cons_succ, List.set_cons_zero]) | ((refine alG 46 (zeroP.cs) (by rfl) rfl (fun w => by kernel_rfl) (Nat.succ_pos _) (unhide LL) ?_); intro X3 B3 hE3 L3 hb3; have hB3 := hide (Nat.le_trans (unhide LL).fr.size (Nat.le_of_eq hE3.symm)); replace LL := hide L3; clear L3 hb3 hE3; simp only [Act.put, List.setIfInBounds_toArray, List.set_cons_succ, List.set_cons_zero]) | ((refine st (vs := p.cs) 1 46 (by rfl) rfl rfl rfl rfl (pcs_one p) (siz46) (unhide LL) rfl (by simp [cput, PR.cs, SH.cs, VV.cs, KK.cs, DD.cs]) (Or.inr (unhide hB3)) ?_); intro X4 L4 hf4 hs4; replace LL := hide L4; clear L4 hf4 hs4; simp only [Act.put, List.setIfInBounds_toArray, List.set_cons_succ, List.set_cons_zero]) | ((refine rd (by rfl) (ex_loadN (vs := p.k.cs) 41 2 row41 siz41 rfl rfl ((unhide LL).get 1 rfl) rfl rfl) ?_); simp only [Act.put, List.setIfInBounds_toArray, List.set_cons_succ, List.set_cons_zero]) | ((refine rd (by rfl) (ex_loadN (vs := p.d.cs) 44 18 row44 siz44 rfl rfl ((unhide LL).get 1 rfl) rfl rfl) ?_); simp only [Act.put, List.setIfInBounds_toArray, List.set_cons_succ, List.set_cons_zero]) | ((refine rd (by rfl) (ex_loadN (vs := p.d.v.cs) 25 5 row25 siz25 rfl rfl ((unhide LL).get 1 rfl) rfl rfl) ?_); simp only [Act.put, List.setIfInBounds_toArray, List.set_cons_succ, List.set_cons_zero]) | ((refine rd (by rfl) (ex_loadN (vs := p.d.g.cs) 25 5 row25 siz25 rfl rfl ((unhide LL).get 1 rfl) rfl rfl) ?_); simp only [Act.put, List.setIfInBounds_toArray, List.set_cons_succ, List.set_cons_zero]) | ((refine rd (by rfl) (ex_loadN (vs := p.d.s.cs) 25 5 row25 siz25 rfl rfl ((unhide LL).get 1 rfl) rfl rfl) ?_); simp only [Act.put, List.setIfInBounds_toArray, List.set_cons_succ, List.set_cons_zero])))
              refine (unhide HV2 _).mono ?_
              rintro e X5 ⟨rfl, hb⟩
              replace LL := hide ((unhide LL).on hb)
              clear hb
              go_wp2
              go_ret
              exact ⟨by rw [unhide HFA]; rfl, (unhide LL).fr.below⟩
            · cases g5
              · replace hok : okR n p = false := hok.trans (by simp)
                have HFA : Hid (rpV n s.ps = false) := hide (rp_bad hp hok)
                clear hp hok
                go_wp2_with (first | go_skip | ((with_reducible show wpList _ _ _ _ _ _); first | ((refine bx 28 (s.cs SA sc) (by rfl) rfl rfl rfl (Nat.succ_pos _) (unhide LL) ?_); intro X1 B1 hE1 L1 hb1; have hB1 := hide (Nat.le_trans (unhide LL).fr.size (Nat.le_of_eq hE1.symm)); replace LL := hide L1; clear L1 hb1 hE1; simp only [Act.put, List.setIfInBounds_toArray, List.set_cons_succ, List.set_cons_zero]) | ((refine rd (by rfl) (ex_load1 26 Tryd.isAgg26 rfl rfl ((unhide LL).get 0 rfl) rfl) ?_); simp only [Act.put, List.setIfInBounds_toArray, List.set_cons_succ, List.set_cons_zero]) | ((refine rd (by rfl) (ex_lenG 26 46 Tryd.underlying26 rfl rfl) ?_); simp only [Act.put, List.setIfInBounds_toArray, List.set_cons_succ, List.set_cons_zero]) | ((refine rd (by rfl) (ex_indexG 26 20 i und26 idx26 rfl rfl rfl (unhide HLT)) ?_); simp only [Act.put, List.setIfInBounds_toArray, List.set_cons_succ, List.set_cons_zero]) | ((refine rd (by rfl) (ex_loadR (vs := p.cs) 46 20 row46 siz46 rfl rfl (unhide HA2 _ (unhide LL).fr) rfl) ?_); simp only [Act.put, List.setIfInBounds_toArray, List.set_cons_succ, List.set_cons_zero]) | ((refine alG 46 (zeroP.cs) (by rfl) rfl (fun w => by kernel_rfl) (Nat.succ_pos _) (unhide LL) ?_); intro X3 B3 hE3 L3 hb3; have hB3 := hide (Nat.le_trans (unhide LL).fr.size (Nat.le_of_eq hE3.symm)); replace LL := hide L3; clear L3 hb3 hE3; simp only [Act.put, List.setIfInBounds_toArray, List.set_cons_succ, List.set_cons_zero]) | ((refine st (vs := p.cs) 1 46 (by rfl) rfl rfl rfl rfl (pcs_one p) (siz46) (unhide LL) rfl (by simp [cput, PR.cs, SH.cs, VV.cs, KK.cs, DD.cs]) (Or.inr (unhide hB3)) ?_); intro X4 L4 hf4 hs4; replace LL := hide L4; clear L4 hf4 hs4; simp only [Act.put, List.setIfInBounds_toArray, List.set_cons_succ, List.set_cons_zero]) | ((refine rd (by rfl) (ex_loadN (vs := p.k.cs) 41 2 row41 siz41 rfl rfl ((unhide LL).get 1 rfl) rfl rfl) ?_); simp only [Act.put, List.setIfInBounds_toArray, List.set_cons_succ, List.set_cons_zero]) | ((refine rd (by rfl) (ex_loadN (vs := p.d.cs) 44 18 row44 siz44 rfl rfl ((unhide LL).get 1 rfl) rfl rfl) ?_); simp only [Act.put, List.setIfInBounds_toArray, List.set_cons_succ, List.set_cons_zero]) | ((refine rd (by rfl) (ex_loadN (vs := p.d.v.cs) 25 5 row25 siz25 rfl rfl ((unhide LL).get 1 rfl) rfl rfl) ?_); simp only [Act.put, List.setIfInBounds_toArray, List.set_cons_succ, List.set_cons_zero]) | ((refine rd (by rfl) (ex_loadN (vs := p.d.g.cs) 25 5 row25 siz25 rfl rfl ((unhide LL).get 1 rfl) rfl rfl) ?_); simp only [Act.put, List.setIfInBounds_toArray, List.set_cons_succ, List.set_cons_zero]) | ((refine rd (by rfl) (ex_loadN (vs := p.d.s.cs) 25 5 row25 siz25 rfl rfl ((unhide LL).get 1 rfl) rfl rfl) ?_); simp only [Act.put, List.setIfInBounds_toArray, List.set_cons_succ, List.set_cons_zero])))
                refine (unhide HG _).mono ?_
                rintro e X5 ⟨rfl, hb⟩
                replace LL := hide ((unhide LL).on hb)
                clear hb
                go_wp2_with (first | go_skip | ((with_reducible show wpList _ _ _ _ _ _); first | ((refine bx 28 (s.cs SA sc) (by rfl) rfl rfl rfl (Nat.succ_pos _) (unhide LL) ?_); intro X1 B1 hE1 L1 hb1; have hB1 := hide (Nat.le_trans (unhide LL).fr.size (Nat.le_of_eq hE1.symm)); replace LL := hide L1; clear L1 hb1 hE1; simp only [Act.put, List.setIfInBounds_toArray, List.set_cons_succ, List.set_cons_zero]) | ((refine rd (by rfl) (ex_load1 26 Tryd.isAgg26 rfl rfl ((unhide LL).get 0 rfl) rfl) ?_); simp only [Act.put, List.setIfInBounds_toArray, List.set_cons_succ, List.set_cons_zero]) | ((refine rd (by rfl) (ex_lenG 26 46 Tryd.underlying26 rfl rfl) ?_); simp only [Act.put, List.setIfInBounds_toArray, List.set_cons_succ, List.set_cons_zero]) | ((refine rd (by rfl) (ex_indexG 26 20 i und26 idx26 rfl rfl rfl (unhide HLT)) ?_); simp only [Act.put, List.setIfInBounds_toArray, List.set_cons_succ, List.set_cons_zero]) | ((refine rd (by rfl) (ex_loadR (vs := p.cs) 46 20 row46 siz46 rfl rfl (unhide HA2 _ (unhide LL).fr) rfl) ?_); simp only [Act.put, List.setIfInBounds_toArray, List.set_cons_succ, List.set_cons_zero]) | ((refine alG 46 (zeroP.cs) (by rfl) rfl (fun w => by kernel_rfl) (Nat.succ_pos _) (unhide LL) ?_); intro X3 B3 hE3 L3 hb3; have hB3 := hide (Nat.le_trans (unhide LL).fr.size (Nat.le_of_eq hE3.symm)); replace LL := hide L3; clear L3 hb3 hE3; simp only [Act.put, List.setIfInBounds_toArray, List.set_cons_succ, List.set_cons_zero]) | ((refine st (vs := p.cs) 1 46 (by rfl) rfl rfl rfl rfl (pcs_one p) (siz46) (unhide LL) rfl (by simp [cput, PR.cs, SH.cs, VV.cs, KK.cs, DD.cs]) (Or.inr (unhide hB3)) ?_); intro X4 L4 hf4 hs4; replace LL := hide L4; clear L4 hf4 hs4; simp only [Act.put, List.setIfInBounds_toArray, List.set_cons_succ, List.set_cons_zero]) | ((refine rd (by rfl) (ex_loadN (vs := p.k.cs) 41 2 row41 siz41 rfl rfl ((unhide LL).get 1 rfl) rfl rfl) ?_); simp only [Act.put, List.setIfInBounds_toArray, List.set_cons_succ, List.set_cons_zero]) | ((refine rd (by rfl) (ex_loadN (vs := p.d.cs) 44 18 row44 siz44 rfl rfl ((unhide LL).get 1 rfl) rfl rfl) ?_); simp only [Act.put, List.setIfInBounds_toArray, List.set_cons_succ, List.set_cons_zero]) | ((refine rd (by rfl) (ex_loadN (vs := p.d.v.cs) 25 5 row25 siz25 rfl rfl ((unhide LL).get 1 rfl) rfl rfl) ?_); simp only [Act.put, List.setIfInBounds_toArray, List.set_cons_succ, List.set_cons_zero]) | ((refine rd (by rfl) (ex_loadN (vs := p.d.g.cs) 25 5 row25 siz25 rfl rfl ((unhide LL).get 1 rfl) rfl rfl) ?_); simp only [Act.put, List.setIfInBounds_toArray, List.set_cons_succ, List.set_cons_zero]) | ((refine rd (by rfl) (ex_loadN (vs := p.d.s.cs) 25 5 row25 siz25 rfl rfl ((unhide LL).get 1 rfl) rfl rfl) ?_); simp only [Act.put, List.setIfInBounds_toArray, List.set_cons_succ, List.set_cons_zero])))
                refine (unhide HW _).mono ?_
                rintro e X5 ⟨rfl, hb⟩
                replace LL := hide ((unhide LL).on hb)
                clear hb
                go_wp2_with (first | go_skip | ((with_reducible show wpList _ _ _ _ _ _); first | ((refine bx 28 (s.cs SA sc) (by rfl) rfl rfl rfl (Nat.succ_pos _) (unhide LL) ?_); intro X1 B1 hE1 L1 hb1; have hB1 := hide (Nat.le_trans (unhide LL).fr.size (Nat.le_of_eq hE1.symm)); replace LL := hide L1; clear L1 hb1 hE1; simp only [Act.put, List.setIfInBounds_toArray, List.set_cons_succ, List.set_cons_zero]) | ((refine rd (by rfl) (ex_load1 26 Tryd.isAgg26 rfl rfl ((unhide LL).get 0 rfl) rfl) ?_); simp only [Act.put, List.setIfInBounds_toArray, List.set_cons_succ, List.set_cons_zero]) | ((refine rd (by rfl) (ex_lenG 26 46 Tryd.underlying26 rfl rfl) ?_); simp only [Act.put, List.setIfInBounds_toArray, List.set_cons_succ, List.set_cons_zero]) | ((refine rd (by rfl) (ex_indexG 26 20 i und26 idx26 rfl rfl rfl (unhide HLT)) ?_); simp only [Act.put, List.setIfInBounds_toArray, List.set_cons_succ, List.set_cons_zero]) | ((refine rd (by rfl) (ex_loadR (vs := p.cs) 46 20 row46 siz46 rfl rfl (unhide HA2 _ (unhide LL).fr) rfl) ?_); simp only [Act.put, List.setIfInBounds_toArray, List.set_cons_succ, List.set_cons_zero]) | ((refine alG 46 (zeroP.cs) (by rfl) rfl (fun w => by kernel_rfl) (Nat.succ_pos _) (unhide LL) ?_); intro X3 B3 hE3 L3 hb3; have hB3 := hide (Nat.le_trans (unhide LL).fr.size (Nat.le_of_eq hE3.symm)); replace LL := hide L3; clear L3 hb3 hE3; simp only [Act.put, List.setIfInBounds_toArray, List.set_cons_succ, List.set_cons_zero]) | ((refine st (vs := p.cs) 1 46 (by rfl) rfl rfl rfl rfl (pcs_one p) (siz46) (unhide LL) rfl (by simp [cput, PR.cs, SH.cs, VV.cs, KK.cs, DD.cs]) (Or.inr (unhide hB3)) ?_); intro X4 L4 hf4 hs4; replace LL := hide L4; clear L4 hf4 hs4; simp only [Act.put, List.setIfInBounds_toArray, List.set_cons_succ, List.set_cons_zero]) | ((refine rd (by rfl) (ex_loadN (vs := p.k.cs) 41 2 row41 siz41 rfl rfl ((unhide LL).get 1 rfl) rfl rfl) ?_); simp only [Act.put, List.setIfInBounds_toArray, List.set_cons_succ, List.set_cons_zero]) | ((refine rd (by rfl) (ex_loadN (vs := p.d.cs) 44 18 row44 siz44 rfl rfl ((unhide LL).get 1 rfl) rfl rfl) ?_); simp only [Act.put, List.setIfInBounds_toArray, List.set_cons_succ, List.set_cons_zero]) | ((refine rd (by rfl) (ex_loadN (vs := p.d.v.cs) 25 5 row25 siz25 rfl rfl ((unhide LL).get 1 rfl) rfl rfl) ?_); simp only [Act.put, List.setIfInBounds_toArray, List.set_cons_succ, List.set_cons_zero]) | ((refine rd (by rfl) (ex_loadN (vs := p.d.g.cs) 25 5 row25 siz25 rfl rfl ((unhide LL).get 1 rfl) rfl rfl) ?_); simp only [Act.put, List.setIfInBounds_toArray, List.set_cons_succ, List.set_cons_zero]) | ((refine rd (by rfl) (ex_loadN (vs := p.d.s.cs) 25 5 row25 siz25 rfl rfl ((unhide LL).get 1 rfl) rfl rfl) ?_); simp only [Act.put, List.setIfInBounds_toArray, List.set_cons_succ, List.set_cons_zero])))
                refine (unhide HV1 _).mono ?_
                rintro e X5 ⟨rfl, hb⟩
                replace LL := hide ((unhide LL).on hb)
                clear hb
                go_wp2_with (first | go_skip | ((with_reducible show wpList _ _ _ _ _ _); first | ((refine bx 28 (s.cs SA sc) (by rfl) rfl rfl rfl (Nat.succ_pos _) (unhide LL) ?_); intro X1 B1 hE1 L1 hb1; have hB1 := hide (Nat.le_trans (unhide LL).fr.size (Nat.le_of_eq hE1.symm)); replace LL := hide L1; clear L1 hb1 hE1; simp only [Act.put, List.setIfInBounds_toArray, List.set_cons_succ, List.set_cons_zero]) | ((refine rd (by rfl) (ex_load1 26 Tryd.isAgg26 rfl rfl ((unhide LL).get 0 rfl) rfl) ?_); simp only [Act.put, List.setIfInBounds_toArray, List.set_cons_succ, List.set_cons_zero]) | ((refine rd (by rfl) (ex_lenG 26 46 Tryd.underlying26 rfl rfl) ?_); simp only [Act.put, List.setIfInBounds_toArray, List.set_cons_succ, List.set_cons_zero]) | ((refine rd (by rfl) (ex_indexG 26 20 i und26 idx26 rfl rfl rfl (unhide HLT)) ?_); simp only [Act.put, List.setIfInBounds_toArray, List.set_cons_succ, List.set_cons_zero]) | ((refine rd (by rfl) (ex_loadR (vs := p.cs) 46 20 row46 siz46 rfl rfl (unhide HA2 _ (unhide LL).fr) rfl) ?_); simp only [Act.put, List.setIfInBounds_toArray, List.set_cons_succ, List.set_cons_zero]) | ((refine alG 46 (zeroP.cs) (by rfl) rfl (fun w => by kernel_rfl) (Nat.succ_pos _) (unhide LL) ?_); intro X3 B3 hE3 L3 hb3; have hB3 := hide (Nat.le_trans (unhide LL).fr.size (Nat.le_of_eq hE3.symm)); replace LL := hide L3; clear L3 hb3 hE3; simp only [Act.put, List.setIfInBounds_toArray, List.set_cons_succ, List.set_cons_zero]) | ((refine st (vs := p.cs) 1 46 (by rfl) rfl rfl rfl rfl (pcs_one p) (siz46) (unhide LL) rfl (by simp [cput, PR.cs, SH.cs, VV.cs, KK.cs, DD.cs]) (Or.inr (unhide hB3)) ?_); intro X4 L4 hf4 hs4; replace LL := hide L4; clear L4 hf4 hs4; simp only [Act.put, List.setIfInBounds_toArray, List.set_cons_succ, List.set_cons_zero]) | ((refine rd (by rfl) (ex_loadN (vs := p.k.cs) 41 2 row41 siz41 rfl rfl ((unhide LL).get 1 rfl) rfl rfl) ?_); simp only [Act.put, List.setIfInBounds_toArray, List.set_cons_succ, List.set_cons_zero]) | ((refine rd (by rfl) (ex_loadN (vs := p.d.cs) 44 18 row44 siz44 rfl rfl ((unhide LL).get 1 rfl) rfl rfl) ?_); simp only [Act.put, List.setIfInBounds_toArray, List.set_cons_succ, List.set_cons_zero]) | ((refine rd (by rfl) (ex_loadN (vs := p.d.v.cs) 25 5 row25 siz25 rfl rfl ((unhide LL).get 1 rfl) rfl rfl) ?_); simp only [Act.put, List.setIfInBounds_toArray, List.set_cons_succ, List.set_cons_zero]) | ((refine rd (by rfl) (ex_loadN (vs := p.d.g.cs) 25 5 row25 siz25 rfl rfl ((unhide LL).get 1 rfl) rfl rfl) ?_); simp only [Act.put, List.setIfInBounds_toArray, List.set_cons_succ, List.set_cons_zero]) | ((refine rd (by rfl) (ex_loadN (vs := p.d.s.cs) 25 5 row25 siz25 rfl rfl ((unhide LL).get 1 rfl) rfl rfl) ?_); simp only [Act.put, List.setIfInBounds_toArray, List.set_cons_succ, List.set_cons_zero])))
                refine (unhide HV2 _).mono ?_
                rintro e X5 ⟨rfl, hb⟩
                replace LL := hide ((unhide LL).on hb)
                clear hb
                go_wp2_with (first | go_skip | ((with_reducible show wpList _ _ _ _ _ _); first | ((refine bx 28 (s.cs SA sc) (by rfl) rfl rfl rfl (Nat.succ_pos _) (unhide LL) ?_); intro X1 B1 hE1 L1 hb1; have hB1 := hide (Nat.le_trans (unhide LL).fr.size (Nat.le_of_eq hE1.symm)); replace LL := hide L1; clear L1 hb1 hE1; simp only [Act.put, List.setIfInBounds_toArray, List.set_cons_succ, List.set_cons_zero]) | ((refine rd (by rfl) (ex_load1 26 Tryd.isAgg26 rfl rfl ((unhide LL).get 0 rfl) rfl) ?_); simp only [Act.put, List.setIfInBounds_toArray, List.set_cons_succ, List.set_cons_zero]) | ((refine rd (by rfl) (ex_lenG 26 46 Tryd.underlying26 rfl rfl) ?_); simp only [Act.put, List.setIfInBounds_toArray, List.set_cons_succ, List.set_cons_zero]) | ((refine rd (by rfl) (ex_indexG 26 20 i und26 idx26 rfl rfl rfl (unhide HLT)) ?_); simp only [Act.put, List.setIfInBounds_toArray, List.set_cons_succ, List.set_cons_zero]) | ((refine rd (by rfl) (ex_loadR (vs := p.cs) 46 20 row46 siz46 rfl rfl (unhide HA2 _ (unhide LL).fr) rfl) ?_); simp only [Act.put, List.setIfInBounds_toArray, List.set_cons_succ, List.set_cons_zero]) | ((refine alG 46 (zeroP.cs) (by rfl) rfl (fun w => by kernel_rfl) (Nat.succ_pos _) (unhide LL) ?_); intro X3 B3 hE3 L3 hb3; have hB3 := hide (Nat.le_trans (unhide LL).fr.size (Nat.le_of_eq hE3.symm)); replace LL := hide L3; clear L3 hb3 hE3; simp only [Act.put, List.setIfInBounds_toArray, List.set_cons_succ, List.set_cons_zero]) | ((refine st (vs := p.cs) 1 46 (by rfl) rfl rfl rfl rfl (pcs_one p) (siz46) (unhide LL) rfl (by simp [cput, PR.cs, SH.cs, VV.cs, KK.cs, DD.cs]) (Or.inr (unhide hB3)) ?_); intro X4 L4 hf4 hs4; replace LL := hide L4; clear L4 hf4 hs4; simp only [Act.put, List.setIfInBounds_toArray, List.set_cons_succ, List.set_cons_zero]) | ((refine rd (by rfl) (ex_loadN (vs := p.k.cs) 41 2 row41 siz41 rfl rfl ((unhide LL).get 1 rfl) rfl rfl) ?_); simp only [Act.put, List.setIfInBounds_toArray, List.set_cons_succ, List.set_cons_zero]) | ((refine rd (by rfl) (ex_loadN (vs := p.d.cs) 44 18 row44 siz44 rfl rfl ((unhide LL).get 1 rfl) rfl rfl) ?_); simp only [Act.put, List.setIfInBounds_toArray, List.set_cons_succ, List.set_cons_zero]) | ((refine rd (by rfl) (ex_loadN (vs := p.d.v.cs) 25 5 row25 siz25 rfl rfl ((unhide LL).get 1 rfl) rfl rfl) ?_); simp only [Act.put, List.setIfInBounds_toArray, List.set_cons_succ, List.set_cons_zero]) | ((refine rd (by rfl) (ex_loadN (vs := p.d.g.cs) 25 5 row25 siz25 rfl rfl ((unhide LL).get 1 rfl) rfl rfl) ?_); simp only [Act.put, List.setIfInBounds_toArray, List.set_cons_succ, List.set_cons_zero]) | ((refine rd (by rfl) (ex_loadN (vs := p.d.s.cs) 25 5 row25 siz25 rfl rfl ((unhide LL).get 1 rfl) rfl rfl) ?_); simp only [Act.put, List.setIfInBounds_toArray, List.set_cons_succ, List.set_cons_zero])))
                refine (unhide HV3 _).mono ?_
                rintro e X5 ⟨rfl, hb⟩
                replace LL := hide ((unhide LL).on hb)
                clear hb
                go_wp2
                go_ret
                exact ⟨by rw [unhide HFA]; rfl, (unhide LL).fr.below⟩
              · replace hok : okR n p = true := hok
                go_wp2_with (first | go_skip | ((with_reducible show wpList _ _ _ _ _ _); first | ((refine bx 28 (s.cs SA sc) (by rfl) rfl rfl rfl (Nat.succ_pos _) (unhide LL) ?_); intro X1 B1 hE1 L1 hb1; have hB1 := hide (Nat.le_trans (unhide LL).fr.size (Nat.le_of_eq hE1.symm)); replace LL := hide L1; clear L1 hb1 hE1; simp only [Act.put, List.setIfInBounds_toArray, List.set_cons_succ, List.set_cons_zero]) | ((refine rd (by rfl) (ex_load1 26 Tryd.isAgg26 rfl rfl ((unhide LL).get 0 rfl) rfl) ?_); simp only [Act.put, List.setIfInBounds_toArray, List.set_cons_succ, List.set_cons_zero]) | ((refine rd (by rfl) (ex_lenG 26 46 Tryd.underlying26 rfl rfl) ?_); simp only [Act.put, List.setIfInBounds_toArray, List.set_cons_succ, List.set_cons_zero]) | ((refine rd (by rfl) (ex_indexG 26 20 i und26 idx26 rfl rfl rfl (unhide HLT)) ?_); simp only [Act.put, List.setIfInBounds_toArray, List.set_cons_succ, List.set_cons_zero]) | ((refine rd (by rfl) (ex_loadR (vs := p.cs) 46 20 row46 siz46 rfl rfl (unhide HA2 _ (unhide LL).fr) rfl) ?_); simp only [Act.put, List.setIfInBounds_toArray, List.set_cons_succ, List.set_cons_zero]) | ((refine alG 46 (zeroP.cs) (by rfl) rfl (fun w => by kernel_rfl) (Nat.succ_pos _) (unhide LL) ?_); intro X3 B3 hE3 L3 hb3; have hB3 := hide (Nat.le_trans (unhide LL).fr.size (Nat.le_of_eq hE3.symm)); replace LL := hide L3; clear L3 hb3 hE3; simp only [Act.put, List.setIfInBounds_toArray, List.set_cons_succ, List.set_cons_zero]) | ((refine st (vs := p.cs) 1 46 (by rfl) rfl rfl rfl rfl (pcs_one p) (siz46) (unhide LL) rfl (by simp [cput, PR.cs, SH.cs, VV.cs, KK.cs, DD.cs]) (Or.inr (unhide hB3)) ?_); intro X4 L4 hf4 hs4; replace LL := hide L4; clear L4 hf4 hs4; simp only [Act.put, List.setIfInBounds_toArray, List.set_cons_succ, List.set_cons_zero]) | ((refine rd (by rfl) (ex_loadN (vs := p.k.cs) 41 2 row41 siz41 rfl rfl ((unhide LL).get 1 rfl) rfl rfl) ?_); simp only [Act.put, List.setIfInBounds_toArray, List.set_cons_succ, List.set_cons_zero]) | ((refine rd (by rfl) (ex_loadN (vs := p.d.cs) 44 18 row44 siz44 rfl rfl ((unhide LL).get 1 rfl) rfl rfl) ?_); simp only [Act.put, List.setIfInBounds_toArray, List.set_cons_succ, List.set_cons_zero]) | ((refine rd (by rfl) (ex_loadN (vs := p.d.v.cs) 25 5 row25 siz25 rfl rfl ((unhide LL).get 1 rfl) rfl rfl) ?_); simp only [Act.put, List.setIfInBounds_toArray, List.set_cons_succ, List.set_cons_zero]) | ((refine rd (by rfl) (ex_loadN (vs := p.d.g.cs) 25 5 row25 siz25 rfl rfl ((unhide LL).get 1 rfl) rfl rfl) ?_); simp only [Act.put, List.setIfInBounds_toArray, List.set_cons_succ, List.set_cons_zero]) | ((refine rd (by rfl) (ex_loadN (vs := p.d.s.cs) 25 5 row25 siz25 rfl rfl ((unhide LL).get 1 rfl) rfl rfl) ?_); simp only [Act.put, List.setIfInBounds_toArray, List.set_cons_succ, List.set_cons_zero])))
                refine (unhide HG _).mono ?_
                rintro e X5 ⟨rfl, hb⟩
                replace LL := hide ((unhide LL).on hb)
                clear hb
                go_wp2_with (first | go_skip | ((with_reducible show wpList _ _ _ _ _ _); first | ((refine bx 28 (s.cs SA sc) (by rfl) rfl rfl rfl (Nat.succ_pos _) (unhide LL) ?_); intro X1 B1 hE1 L1 hb1; have hB1 := hide (Nat.le_trans (unhide LL).fr.size (Nat.le_of_eq hE1.symm)); replace LL := hide L1; clear L1 hb1 hE1; simp only [Act.put, List.setIfInBounds_toArray, List.set_cons_succ, List.set_cons_zero]) | ((refine rd (by rfl) (ex_load1 26 Tryd.isAgg26 rfl rfl ((unhide LL).get 0 rfl) rfl) ?_); simp only [Act.put, List.setIfInBounds_toArray, List.set_cons_succ, List.set_cons_zero]) | ((refine rd (by rfl) (ex_lenG 26 46 Tryd.underlying26 rfl rfl) ?_); simp only [Act.put, List.setIfInBounds_toArray, List.set_cons_succ, List.set_cons_zero]) | ((refine rd (by rfl) (ex_indexG 26 20 i und26 idx26 rfl rfl rfl (unhide HLT)) ?_); simp only [Act.put, List.setIfInBounds_toArray, List.set_cons_succ, List.set_cons_zero]) | ((refine rd (by rfl) (ex_loadR (vs := p.cs) 46 20 row46 siz46 rfl rfl (unhide HA2 _ (unhide LL).fr) rfl) ?_); simp only [Act.put, List.setIfInBounds_toArray, List.set_cons_succ, List.set_cons_zero]) | ((refine alG 46 (zeroP.cs) (by rfl) rfl (fun w => by kernel_rfl) (Nat.succ_pos _) (unhide LL) ?_); intro X3 B3 hE3 L3 hb3; have hB3 := hide (Nat.le_trans (unhide LL).fr.size (Nat.le_of_eq hE3.symm)); replace LL := hide L3; clear L3 hb3 hE3; simp only [Act.put, List.setIfInBounds_toArray, List.set_cons_succ, List.set_cons_zero]) | ((refine st (vs := p.cs) 1 46 (by rfl) rfl rfl rfl rfl (pcs_one p) (siz46) (unhide LL) rfl (by simp [cput, PR.cs, SH.cs, VV.cs, KK.cs, DD.cs]) (Or.inr (unhide hB3)) ?_); intro X4 L4 hf4 hs4; replace LL := hide L4; clear L4 hf4 hs4; simp only [Act.put, List.setIfInBounds_toArray, List.set_cons_succ, List.set_cons_zero]) | ((refine rd (by rfl) (ex_loadN (vs := p.k.cs) 41 2 row41 siz41 rfl rfl ((unhide LL).get 1 rfl) rfl rfl) ?_); simp only [Act.put, List.setIfInBounds_toArray, List.set_cons_succ, List.set_cons_zero]) | ((refine rd (by rfl) (ex_loadN (vs := p.d.cs) 44 18 row44 siz44 rfl rfl ((unhide LL).get 1 rfl) rfl rfl) ?_); simp only [Act.put, List.setIfInBounds_toArray, List.set_cons_succ, List.set_cons_zero]) | ((refine rd (by rfl) (ex_loadN (vs := p.d.v.cs) 25 5 row25 siz25 rfl rfl ((unhide LL).get 1 rfl) rfl rfl) ?_); simp only [Act.put, List.setIfInBounds_toArray, List.set_cons_succ, List.set_cons_zero]) | ((refine rd (by rfl) (ex_loadN (vs := p.d.g.cs) 25 5 row25 siz25 rfl rfl ((unhide LL).get 1 rfl) rfl rfl) ?_); simp only [Act.put, List.setIfInBounds_toArray, List.set_cons_succ, List.set_cons_zero]) | ((refine rd (by rfl) (ex_loadN (vs := p.d.s.cs) 25 5 row25 siz25 rfl rfl ((unhide LL).get 1 rfl) rfl rfl) ?_); simp only [Act.put, List.setIfInBounds_toArray, List.set_cons_succ, List.set_cons_zero])))
                refine (unhide HW _).mono ?_
                rintro e X5 ⟨rfl, hb⟩
                replace LL := hide ((unhide LL).on hb)
                clear hb
                go_wp2_with (first | go_skip | ((with_reducible show wpList _ _ _ _ _ _); first | ((refine bx 28 (s.cs SA sc) (by rfl) rfl rfl rfl (Nat.succ_pos _) (unhide LL) ?_); intro X1 B1 hE1 L1 hb1; have hB1 := hide (Nat.le_trans (unhide LL).fr.size (Nat.le_of_eq hE1.symm)); replace LL := hide L1; clear L1 hb1 hE1; simp only [Act.put, List.setIfInBounds_toArray, List.set_cons_succ, List.set_cons_zero]) | ((refine rd (by rfl) (ex_load1 26 Tryd.isAgg26 rfl rfl ((unhide LL).get 0 rfl) rfl) ?_); simp only [Act.put, List.setIfInBounds_toArray, List.set_cons_succ, List.set_cons_zero]) | ((refine rd (by rfl) (ex_lenG 26 46 Tryd.underlying26 rfl rfl) ?_); simp only [Act.put, List.setIfInBounds_toArray, List.set_cons_succ, List.set_cons_zero]) | ((refine rd (by rfl) (ex_indexG 26 20 i und26 idx26 rfl rfl rfl (unhide HLT)) ?_); simp only [Act.put, List.setIfInBounds_toArray, List.set_cons_succ, List.set_cons_zero]) | ((refine rd (by rfl) (ex_loadR (vs := p.cs) 46 20 row46 siz46 rfl rfl (unhide HA2 _ (unhide LL).fr) rfl) ?_); simp only [Act.put, List.setIfInBounds_toArray, List.set_cons_succ, List.set_cons_zero]) | ((refine alG 46 (zeroP.cs) (by rfl) rfl (fun w => by kernel_rfl) (Nat.succ_pos _) (unhide LL) ?_); intro X3 B3 hE3 L3 hb3; have hB3 := hide (Nat.le_trans (unhide LL).fr.size (Nat.le_of_eq hE3.symm)); replace LL := hide L3; clear L3 hb3 hE3; simp only [Act.put, List.setIfInBounds_toArray, List.set_cons_succ, List.set_cons_zero]) | ((refine st (vs := p.cs) 1 46 (by rfl) rfl rfl rfl rfl (pcs_one p) (siz46) (unhide LL) rfl (by simp [cput, PR.cs, SH.cs, VV.cs, KK.cs, DD.cs]) (Or.inr (unhide hB3)) ?_); intro X4 L4 hf4 hs4; replace LL := hide L4; clear L4 hf4 hs4; simp only [Act.put, List.setIfInBounds_toArray, List.set_cons_succ, List.set_cons_zero]) | ((refine rd (by rfl) (ex_loadN (vs := p.k.cs) 41 2 row41 siz41 rfl rfl ((unhide LL).get 1 rfl) rfl rfl) ?_); simp only [Act.put, List.setIfInBounds_toArray, List.set_cons_succ, List.set_cons_zero]) | ((refine rd (by rfl) (ex_loadN (vs := p.d.cs) 44 18 row44 siz44 rfl rfl ((unhide LL).get 1 rfl) rfl rfl) ?_); simp only [Act.put, List.setIfInBounds_toArray, List.set_cons_succ, List.set_cons_zero]) | ((refine rd (by rfl) (ex_loadN (vs := p.d.v.cs) 25 5 row25 siz25 rfl rfl ((unhide LL).get 1 rfl) rfl rfl) ?_); simp only [Act.put, List.setIfInBounds_toArray, List.set_cons_succ, List.set_cons_zero]) | ((refine rd (by rfl) (ex_loadN (vs := p.d.g.cs) 25 5 row25 siz25 rfl rfl ((unhide LL).get 1 rfl) rfl rfl) ?_); simp only [Act.put, List.setIfInBounds_toArray, List.set_cons_succ, List.set_cons_zero]) | ((refine rd (by rfl) (ex_loadN (vs := p.d.s.cs) 25 5 row25 siz25 rfl rfl ((unhide LL).get 1 rfl) rfl rfl) ?_); simp only [Act.put, List.setIfInBounds_toArray, List.set_cons_succ, List.set_cons_zero])))
                refine (unhide HV1 _).mono ?_
                rintro e X5 ⟨rfl, hb⟩
                replace LL := hide ((unhide LL).on hb)
                clear hb
                go_wp2_with (first | go_skip | ((with_reducible show wpList _ _ _ _ _ _); first | ((refine bx 28 (s.cs SA sc) (by rfl) rfl rfl rfl (Nat.succ_pos _) (unhide LL) ?_); intro X1 B1 hE1 L1 hb1; have hB1 := hide (Nat.le_trans (unhide LL).fr.size (Nat.le_of_eq hE1.symm)); replace LL := hide L1; clear L1 hb1 hE1; simp only [Act.put, List.setIfInBounds_toArray, List.set_cons_succ, List.set_cons_zero]) | ((refine rd (by rfl) (ex_load1 26 Tryd.isAgg26 rfl rfl ((unhide LL).get 0 rfl) rfl) ?_); simp only [Act.put, List.setIfInBounds_toArray, List.set_cons_succ, List.set_cons_zero]) | ((refine rd (by rfl) (ex_lenG 26 46 Tryd.underlying26 rfl rfl) ?_); simp only [Act.put, List.setIfInBounds_toArray, List.set_cons_succ, List.set_cons_zero]) | ((refine rd (by rfl) (ex_indexG 26 20 i und26 idx26 rfl rfl rfl (unhide HLT)) ?_); simp only [Act.put, List.setIfInBounds_toArray, List.set_cons_succ, List.set_cons_zero]) | ((refine rd (by rfl) (ex_loadR (vs := p.cs) 46 20 row46 siz46 rfl rfl (unhide HA2 _ (unhide LL).fr) rfl) ?_); simp only [Act.put, List.setIfInBounds_toArray, List.set_cons_succ, List.set_cons_zero]) | ((refine alG 46 (zeroP.cs) (by rfl) rfl (fun w => by kernel_rfl) (Nat.succ_pos _) (unhide LL) ?_); intro X3 B3 hE3 L3 hb3; have hB3 := hide (Nat.le_trans (unhide LL).fr.size (Nat.le_of_eq hE3.symm)); replace LL := hide L3; clear L3 hb3 hE3; simp only [Act.put, List.setIfInBounds_toArray, List.set_cons_succ, List.set_cons_zero]) | ((refine st (vs := p.cs) 1 46 (by rfl) rfl rfl rfl rfl (pcs_one p) (siz46) (unhide LL) rfl (by simp [cput, PR.cs, SH.cs, VV.cs, KK.cs, DD.cs]) (Or.inr (unhide hB3)) ?_); intro X4 L4 hf4 hs4; replace LL := hide L4; clear L4 hf4 hs4; simp only [Act.put, List.setIfInBounds_toArray, List.set_cons_succ, List.set_cons_zero]) | ((refine rd (by rfl) (ex_loadN (vs := p.k.cs) 41 2 row41 siz41 rfl rfl ((unhide LL).get 1 rfl) rfl rfl) ?_); simp only [Act.put, List.setIfInBounds_toArray, List.set_cons_succ, List.set_cons_zero]) | ((refine rd (by rfl) (ex_loadN (vs := p.d.cs) 44 18 row44 siz44 rfl rfl ((unhide LL).get 1 rfl) rfl rfl) ?_); simp only [Act.put, List.setIfInBounds_toArray, List.set_cons_succ, List.set_cons_zero]) | ((refine rd (by rfl) (ex_loadN (vs := p.d.v.cs) 25 5 row25 siz25 rfl rfl ((unhide LL).get 1 rfl) rfl rfl) ?_); simp only [Act.put, List.setIfInBounds_toArray, List.set_cons_succ, List.set_cons_zero]) | ((refine rd (by rfl) (ex_loadN (vs := p.d.g.cs) 25 5 row25 siz25 rfl rfl ((unhide LL).get 1 rfl) rfl rfl) ?_); simp only [Act.put, List.setIfInBounds_toArray, List.set_cons_succ, List.set_cons_zero]) | ((refine rd (by rfl) (ex_loadN (vs := p.d.s.cs) 25 5 row25 siz25 rfl rfl ((unhide LL).get 1 rfl) rfl rfl) ?_); simp only [Act.put, List.setIfInBounds_toArray, List.set_cons_succ, List.set_cons_zero])))
                refine (unhide HV2 _).mono ?_
                rintro e X5 ⟨rfl, hb⟩
                replace LL := hide ((unhide LL).on hb)
                clear hb
                go_wp2_with (first | go_skip | ((with_reducible show wpList _ _ _ _ _ _); first | ((refine bx 28 (s.cs SA sc) (by rfl) rfl rfl rfl (Nat.succ_pos _) (unhide LL) ?_); intro X1 B1 hE1 L1 hb1; have hB1 := hide (Nat.le_trans (unhide LL).fr.size (Nat.le_of_eq hE1.symm)); replace LL := hide L1; clear L1 hb1 hE1; simp only [Act.put, List.setIfInBounds_toArray, List.set_cons_succ, List.set_cons_zero]) | ((refine rd (by rfl) (ex_load1 26 Tryd.isAgg26 rfl rfl ((unhide LL).get 0 rfl) rfl) ?_); simp only [Act.put, List.setIfInBounds_toArray, List.set_cons_succ, List.set_cons_zero]) | ((refine rd (by rfl) (ex_lenG 26 46 Tryd.underlying26 rfl rfl) ?_); simp only [Act.put, List.setIfInBounds_toArray, List.set_cons_succ, List.set_cons_zero]) | ((refine rd (by rfl) (ex_indexG 26 20 i und26 idx26 rfl rfl rfl (unhide HLT)) ?_); simp only [Act.put, List.setIfInBounds_toArray, List.set_cons_succ, List.set_cons_zero]) | ((refine rd (by rfl) (ex_loadR (vs := p.cs) 46 20 row46 siz46 rfl rfl (unhide HA2 _ (unhide LL).fr) rfl) ?_); simp only [Act.put, List.setIfInBounds_toArray, List.set_cons_succ, List.set_cons_zero]) | ((refine alG 46 (zeroP.cs) (by rfl) rfl (fun w => by kernel_rfl) (Nat.succ_pos _) (unhide LL) ?_); intro X3 B3 hE3 L3 hb3; have hB3 := hide (Nat.le_trans (unhide LL).fr.size (Nat.le_of_eq hE3.symm)); replace LL := hide L3; clear L3 hb3 hE3; simp only [Act.put, List.setIfInBounds_toArray, List.set_cons_succ, List.set_cons_zero]) | ((refine st (vs := p.cs) 1 46 (by rfl) rfl rfl rfl rfl (pcs_one p) (siz46) (unhide LL) rfl (by simp [cput, PR.cs, SH.cs, VV.cs, KK.cs, DD.cs]) (Or.inr (unhide hB3)) ?_); intro X4 L4 hf4 hs4; replace LL := hide L4; clear L4 hf4 hs4; simp only [Act.put, List.setIfInBounds_toArray, List.set_cons_succ, List.set_cons_zero]) | ((refine rd (by rfl) (ex_loadN (vs := p.k.cs) 41 2 row41 siz41 rfl rfl ((unhide LL).get 1 rfl) rfl rfl) ?_); simp only [Act.put, List.setIfInBounds_toArray, List.set_cons_succ, List.set_cons_zero]) | ((refine rd (by rfl) (ex_loadN (vs := p.d.cs) 44 18 row44 siz44 rfl rfl ((unhide LL).get 1 rfl) rfl rfl) ?_); simp only [Act.put, List.setIfInBounds_toArray, List.set_cons_succ, List.set_cons_zero]) | ((refine rd (by rfl) (ex_loadN (vs := p.d.v.cs) 25 5 row25 siz25 rfl rfl ((unhide LL).get 1 rfl) rfl rfl) ?_); simp only [Act.put, List.setIfInBounds_toArray, List.set_cons_succ, List.set_cons_zero]) | ((refine rd (by rfl) (ex_loadN (vs := p.d.g.cs) 25 5 row25 siz25 rfl rfl ((unhide LL).get 1 rfl) rfl rfl) ?_); simp only [Act.put, List.setIfInBounds_toArray, List.set_cons_succ, List.set_cons_zero]) | ((refine rd (by rfl) (ex_loadN (vs := p.d.s.cs) 25 5 row25 siz25 rfl rfl ((unhide LL).get 1 rfl) rfl rfl) ?_); simp only [Act.put, List.setIfInBounds_toArray, List.set_cons_succ, List.set_cons_zero])))
                refine (unhide HV3 _).mono ?_
                rintro e X5 ⟨rfl, hb⟩
                replace LL := hide ((unhide LL).on hb)
                clear hb
                go_wp2_with fail
                replace LL : Hid (Hq w _ [] [(B1, s.cs (some ⟨b, off, none⟩) sc), (B3, p.cs)]) := hide (unhide LL)
                go_wp2_with fail
                go_loopg [7] i (fun gm s7 wr => ∃ k : Nat, s7 = .int .i64 (k : Nat) ∧ k ≤ i ∧ i - k ≤ gm ∧ Hid ((s.ps.take k).any (fun q => decide (q.k = p.k)) = false) ∧ Hid (Hq w wr [] [(B1, s.cs (some ⟨b, off, none⟩) sc), (B3, p.cs)]))
                case atStart => exact ⟨0, rfl, by omega, by omega, hide (by simp), LL⟩
                case round =>
                  clear LL
                  obtain ⟨k, rfl, hki, hgm2, HK, LL⟩ := hrel
                  by_cases hkl2 : k < i
                  · have dk : decide ((k : Int) < (i : Int)) = true := decide_eq_true (by omega)
                    have hwk : IntKind.i64.wrap ((k : Int) + 1) = (k : Int) + 1 := by have := unhide HZ; have := unhide HLT; rw [IntKind.wrap_i64]; omega
                    have hkl : k < s.ps.length := by have := unhide HLT; omega
                    obtain ⟨q, hq⟩ : ∃ q, s.ps[k]? = some q := ⟨_, List.getElem?_eq_getElem hkl⟩
                    obtain ⟨_, b2, off2, hA, hb2, hrg⟩ := (unhide HR) k q hq
                    obtain ⟨rfl, rfl⟩ : b = b2 ∧ off = off2 := by
                      have e := Option.some.inj hA
                      exact ⟨congrArg Addr.block e, congrArg Addr.off e⟩
                    have HKI := hide hkl2
                    clear hki
                    go_wp2_with fail
                    have hq0 : Hq w _ [] [(B1, s.cs (some ⟨b, off, none⟩) sc), (B3, p.cs)] := (unhide LL).drew
                    refine wp_region_held_drew (P := Tryd.prog) (S := fun X => Hq w X [] [(B1, s.cs (some ⟨b, off, none⟩) sc), (B3, p.cs)]) (by kernel_rfl) hq0 (fun hS0 => ?_)
                    refine gsem 0 (some 59) (.pointer (some ⟨B1, 7, none⟩)) rfl (by kernel_rfl) (by kernel_rfl) (by kernel_rfl) (fun _ _ _ h => h) (by kernel_rfl) (by kernel_rfl) (fun _ _ => by kernel_rfl) hq0 ?_
                    simp only [Act.put, List.setIfInBounds_toArray, List.set_cons_succ, List.set_cons_zero]
                    refine gsem 1 (some 60) (.slice (some ⟨b, off, none⟩) s.ps.length sc) rfl (by kernel_rfl) (by kernel_rfl) (by kernel_rfl) (fun _ _ _ h => h) (by kernel_rfl) (by kernel_rfl) (fun X hX => ex_load1 26 Tryd.isAgg26 rfl rfl (hX.get 0 rfl) rfl) hq0 ?_
                    simp only [Act.put, List.setIfInBounds_toArray, List.set_cons_succ, List.set_cons_zero]
                    refine gsem 2 (some 61) (.int .i64 (k : Nat)) rfl (by kernel_rfl) (by kernel_rfl) (by kernel_rfl) (fun _ _ _ h => h) (by kernel_rfl) (by kernel_rfl) (fun _ _ => by kernel_rfl) hq0 ?_
                    simp only [Act.put, List.setIfInBounds_toArray, List.set_cons_succ, List.set_cons_zero]
                    refine gsem 3 (some 62) (.pointer (some ⟨b, off + k * 20, none⟩)) rfl (by kernel_rfl) (by kernel_rfl) (by kernel_rfl) (fun _ _ _ h => h) (by kernel_rfl) (by kernel_rfl) (fun X hX => ex_indexG 26 20 k und26 idx26 rfl rfl rfl hkl) hq0 ?_
                    simp only [Act.put, List.setIfInBounds_toArray, List.set_cons_succ, List.set_cons_zero]
                    refine gsem 4 (some 63) (.pointer (some ⟨b, off + k * 20, none⟩)) rfl (by kernel_rfl) (by kernel_rfl) (by kernel_rfl) (fun _ _ _ h => h) (by kernel_rfl) (by kernel_rfl) (fun _ _ => by kernel_rfl) hq0 ?_
                    simp only [Act.put, List.setIfInBounds_toArray, List.set_cons_succ, List.set_cons_zero]
                    refine gsem 5 (some 64) (.agg q.k.cs.toArray) rfl (by kernel_rfl) (by kernel_rfl) (by kernel_rfl) (fun _ _ _ h => h) (by kernel_rfl) (by kernel_rfl) (fun X hX => ex_loadR (vs := q.k.cs) 41 2 row41 siz41 rfl rfl (range_left (a := q.k.cs) (c := q.d.cs) (rangeAt_fr hrg hb2 hX.fr)) rfl) hq0 ?_
                    simp only [Act.put, List.setIfInBounds_toArray, List.set_cons_succ, List.set_cons_zero]
                    refine gsem 6 (some 65) (.pointer (some ⟨B3, 0, none⟩)) rfl (by kernel_rfl) (by kernel_rfl) (by kernel_rfl) (fun _ _ _ h => h) (by kernel_rfl) (by kernel_rfl) (fun _ _ => by kernel_rfl) hq0 ?_
                    simp only [Act.put, List.setIfInBounds_toArray, List.set_cons_succ, List.set_cons_zero]
                    refine gsem 7 (some 66) (.agg p.k.cs.toArray) rfl (by kernel_rfl) (by kernel_rfl) (by kernel_rfl) (fun _ _ _ h => h) (by kernel_rfl) (by kernel_rfl) (fun X hX => ex_loadN (vs := p.k.cs) 41 2 row41 siz41 rfl rfl (hX.get 1 rfl) rfl rfl) hq0 ?_
                    simp only [Act.put, List.setIfInBounds_toArray, List.set_cons_succ, List.set_cons_zero]
                    refine gsem 8 (some 67) (.bool (decide (q.k = p.k))) rfl (by kernel_rfl) (by kernel_rfl) (by kernel_rfl) (fun _ _ _ h => h) (by kernel_rfl) (by kernel_rfl) (fun X hX => ex_eql41 q.k p.k rfl rfl rfl) hq0 ?_
                    simp only [Act.put, List.setIfInBounds_toArray, List.set_cons_succ, List.set_cons_zero]
                    refine wpAnyH_done (by kernel_rfl) ?_ _
                    try simp only [Act.put, List.setIfInBounds_toArray, List.set_cons_succ, List.set_cons_zero]
                    replace LL := hide hq0
                    clear hq0 hS0
                    by_cases he : q.k = p.k
                    · have HFA : Hid (rpV n s.ps = false) := hide (rp_dup hp (any_hit hq hkl2 he))
                      have de : decide (q.k = p.k) = true := decide_eq_true he
                      rw [de]
                      clear de he hp hq hok hkl hkl2 hrg hb2 hA
                      go_wp2
                      go_ret
                      exact ⟨by rw [unhide HFA]; rfl, (unhide LL).fr.below⟩
                    · have HK2 := hide (any_step (unhide HK) hq he)
                      have de : decide (q.k = p.k) = false := decide_eq_false he
                      rw [de]
                      clear de he hq hkl hkl2 hrg hb2 hA HK
                      go_wp2
                      go_roundg (i - (k + 1))
                      case measure => have := unhide HKI; omega
                      case rel => exact ⟨k + 1, by go_num, by have := unhide HKI; omega, by omega, HK2, LL⟩
                  · obtain rfl : k = i := by omega
                    have HD2 := hide (rp_step (unhide HD) hp hok (unhide HK))
                    clear hp hok hkl2 hki HK HD
                    replace LL := hide (Hq.left (L := [(B1, s.cs (some ⟨b, off, none⟩) sc)]) (M := [_]) (unhide LL))
                    go_wp2
                    go_roundg (s.ps.length - (k + 1))
                    case measure => have := unhide HLT; omega
                    case rel => exact ⟨k + 1, by go_num, by have := unhide HLT; omega, by omega, HD2, LL⟩
    · obtain rfl : i = s.ps.length := by omega
      clear hlt hil
      go_wp2_with (first | go_skip | ((with_reducible show wpList _ _ _ _ _ _); first | ((refine rd (by rfl) (ex_load1 26 Tryd.isAgg26 rfl rfl ((unhide LL).get 0 rfl) rfl) ?_); simp only [Act.put, List.setIfInBounds_toArray, List.set_cons_succ, List.set_cons_zero]) | ((refine rd (by rfl) (ex_lenG 26 46 Tryd.underlying26 rfl rfl) ?_); simp only [Act.put, List.setIfInBounds_toArray, List.set_cons_succ, List.set_cons_zero])))
      go_ret
      exact ⟨by unfold rpV; rw [unhide HD]; rfl, (unhide LL).fr.below⟩
end Go.Proofs.YtmpdhmdmfmgamaaDoor

/-! On -/
namespace Go.Proofs.YtmpdhmdmfmgamaaDoor
open Go Go.Proofs Go.Maps Go.RowKit FM
set_option linter.unusedSimpArgs false
set_option linter.unusedVariables false
set_option maxHeartbeats 1000000
theorem neq41 (k : KK) (w : World) : (binOp .neq 41 k.agg k.agg).run Tryd.prog w = .ok (.bool false) w := by
  unfold KK.agg
  have ht : Tryd.prog.underlying 41 = some (.struct (Tryd.prog.fieldsOf 41)) := by kernel_rfl
  rw [run_neq_struct, show (10000 : Nat) = 9998 + 1 + 1 from rfl, run_equalIn_struct _ _ _ _ _ ht (by kernel_rfl)]
  have hf : Tryd.prog.fieldsOf 41 = (match Tryd.prog.underlying 41 with | some (.struct f) => f | _ => #[]) := by kernel_rfl
  rw [hf, Tryd.underlying41]
  simp [Op.eqFields, go_sem, part]
theorem ex_neq41 {o : Oper} {a : Act} {w : World} {x y : Operand} (k : KK) (ho : o.op = .binOp .neq 41 x y 41) (hx : a.eval x = k.agg) (hy : a.eval y = k.agg) : (execOp a.eval o).run Tryd.prog w = .ok (.value (.bool false)) w := by
  have e := neq41 k w
  have e2 : (eqGuard .neq 41 x y k.agg k.agg).run Tryd.prog w = .ok () w := by kernel_rfl
  unfold execOp
  simp only [ho, hx, hy]
  simp [e, e2]
set_option maxHeartbeats 4000000 in
set_option maxRecDepth 100000 in
theorem same5 (s : SH) (SA SB : Option Addr) (sa sb : Nat) (w : World) (hA : ReadsP w SA s.ps) (hB : ReadsP w SB s.ps) (hz : s.ps.length ≤ 733007751850) : Calls Tryd.prog 5 #[s.agg SA sa, s.agg SB sb] w fun e w' => e = .returned (.bool true) ∧ Below w.heap.size w w' := by
  have LL := hide (Hq.nil w [])
  have HA := hide hA
  have HB := hide hB
  have HZ := hide hz
  have HE := hide (eq_any s.p s.p)
  rw [eqB_self, vagg] at HE
  unfold SH.agg
  clear hA hB hz
  have hc : (s.c != s.c) = false := by simp
  have hx : (s.x != s.x) = false := by simp
  have hl : ((s.ps.length : Int) != (s.ps.length : Int)) = false := by simp
  go_enter Tryd.func5, Tryd.ntmps5
  go_wp2_with (first | go_skip | ((with_reducible show wpList _ _ _ _ _ _); first | ((refine bx 28 (s.cs SA sa) (by rfl) rfl rfl rfl (Nat.succ_pos _) (unhide LL) ?_); intro X1 B1 hE1 L1 hb1; have hB1 := hide (Nat.le_trans (unhide LL).fr.size (Nat.le_of_eq hE1.symm)); replace LL := hide L1; clear L1 hb1 hE1; simp only [Act.put, List.setIfInBounds_toArray, List.set_cons_succ, List.set_cons_zero]) | ((refine bx 28 (s.cs SB sb) (by rfl) rfl rfl rfl (Nat.succ_pos _) (unhide LL) ?_); intro X2 B2 hE2 L2 hb2; have hB2 := hide (Nat.le_trans (unhide LL).fr.size (Nat.le_of_eq hE2.symm)); replace LL := hide L2; clear L2 hb2 hE2; simp only [Act.put, List.setIfInBounds_toArray, List.set_cons_succ, List.set_cons_zero]) | ((refine rd (by rfl) (ex_load1 3 Tryd.isAgg3 rfl rfl ((unhide LL).get 0 rfl) rfl) ?_); simp only [Act.put, List.setIfInBounds_toArray, List.set_cons_succ, List.set_cons_zero]) | ((refine rd (by rfl) (ex_load1 3 Tryd.isAgg3 rfl rfl ((unhide LL).get 1 rfl) rfl) ?_); simp only [Act.put, List.setIfInBounds_toArray, List.set_cons_succ, List.set_cons_zero]) | ((refine rd (by rfl) (ex_loadN (vs := s.p.cs) 25 5 row25 siz25 rfl rfl ((unhide LL).get 0 rfl) rfl rfl) ?_); simp only [Act.put, List.setIfInBounds_toArray, List.set_cons_succ, List.set_cons_zero]) | ((refine rd (by rfl) (ex_loadN (vs := s.p.cs) 25 5 row25 siz25 rfl rfl ((unhide LL).get 1 rfl) rfl rfl) ?_); simp only [Act.put, List.setIfInBounds_toArray, List.set_cons_succ, List.set_cons_zero]) | ((refine rd (by rfl) (ex_load1 4 Tryd.isAgg4 rfl rfl ((unhide LL).get 0 rfl) rfl) ?_); simp only [Act.put, List.setIfInBounds_toArray, List.set_cons_succ, List.set_cons_zero]) | ((refine rd (by rfl) (ex_load1 4 Tryd.isAgg4 rfl rfl ((unhide LL).get 1 rfl) rfl) ?_); simp only [Act.put, List.setIfInBounds_toArray, List.set_cons_succ, List.set_cons_zero]) | ((refine rd (by rfl) (ex_load1 26 Tryd.isAgg26 rfl rfl ((unhide LL).get 0 rfl) rfl) ?_); simp only [Act.put, List.setIfInBounds_toArray, List.set_cons_succ, List.set_cons_zero]) | ((refine rd (by rfl) (ex_load1 26 Tryd.isAgg26 rfl rfl ((unhide LL).get 1 rfl) rfl) ?_); simp only [Act.put, List.setIfInBounds_toArray, List.set_cons_succ, List.set_cons_zero]) | ((refine rd (by rfl) (ex_lenG 26 46 Tryd.underlying26 rfl rfl) ?_); simp only [Act.put, List.setIfInBounds_toArray, List.set_cons_succ, List.set_cons_zero])))
  refine (unhide HE _).mono ?_
  rintro e X3 ⟨rfl, hb⟩
  replace LL := hide ((unhide LL).on hb)
  clear hb
  go_wp2_with (first | go_skip | ((with_reducible show wpList _ _ _ _ _ _); first | ((refine bx 28 (s.cs SA sa) (by rfl) rfl rfl rfl (Nat.succ_pos _) (unhide LL) ?_); intro X1 B1 hE1 L1 hb1; have hB1 := hide (Nat.le_trans (unhide LL).fr.size (Nat.le_of_eq hE1.symm)); replace LL := hide L1; clear L1 hb1 hE1; simp only [Act.put, List.setIfInBounds_toArray, List.set_cons_succ, List.set_cons_zero]) | ((refine bx 28 (s.cs SB sb) (by rfl) rfl rfl rfl (Nat.succ_pos _) (unhide LL) ?_); intro X2 B2 hE2 L2 hb2; have hB2 := hide (Nat.le_trans (unhide LL).fr.size (Nat.le_of_eq hE2.symm)); replace LL := hide L2; clear L2 hb2 hE2; simp only [Act.put, List.setIfInBounds_toArray, List.set_cons_succ, List.set_cons_zero]) | ((refine rd (by rfl) (ex_load1 3 Tryd.isAgg3 rfl rfl ((unhide LL).get 0 rfl) rfl) ?_); simp only [Act.put, List.setIfInBounds_toArray, List.set_cons_succ, List.set_cons_zero]) | ((refine rd (by rfl) (ex_load1 3 Tryd.isAgg3 rfl rfl ((unhide LL).get 1 rfl) rfl) ?_); simp only [Act.put, List.setIfInBounds_toArray, List.set_cons_succ, List.set_cons_zero]) | ((refine rd (by rfl) (ex_loadN (vs := s.p.cs) 25 5 row25 siz25 rfl rfl ((unhide LL).get 0 rfl) rfl rfl) ?_); simp only [Act.put, List.setIfInBounds_toArray, List.set_cons_succ, List.set_cons_zero]) | ((refine rd (by rfl) (ex_loadN (vs := s.p.cs) 25 5 row25 siz25 rfl rfl ((unhide LL).get 1 rfl) rfl rfl) ?_); simp only [Act.put, List.setIfInBounds_toArray, List.set_cons_succ, List.set_cons_zero]) | ((refine rd (by rfl) (ex_load1 4 Tryd.isAgg4 rfl rfl ((unhide LL).get 0 rfl) rfl) ?_); simp only [Act.put, List.setIfInBounds_toArray, List.set_cons_succ, List.set_cons_zero]) | ((refine rd (by rfl) (ex_load1 4 Tryd.isAgg4 rfl rfl ((unhide LL).get 1 rfl) rfl) ?_); simp only [Act.put, List.setIfInBounds_toArray, List.set_cons_succ, List.set_cons_zero]) | ((refine rd (by rfl) (ex_load1 26 Tryd.isAgg26 rfl rfl ((unhide LL).get 0 rfl) rfl) ?_); simp only [Act.put, List.setIfInBounds_toArray, List.set_cons_succ, List.set_cons_zero]) | ((refine rd (by rfl) (ex_load1 26 Tryd.isAgg26 rfl rfl ((unhide LL).get 1 rfl) rfl) ?_); simp only [Act.put, List.setIfInBounds_toArray, List.set_cons_succ, List.set_cons_zero]) | ((refine rd (by rfl) (ex_lenG 26 46 Tryd.underlying26 rfl rfl) ?_); simp only [Act.put, List.setIfInBounds_toArray, List.set_cons_succ, List.set_cons_zero])))
  go_loopg [5] s.ps.length (fun gm s5 wr => ∃ i : Nat, s5 = .int .i64 (i : Nat) ∧ i ≤ s.ps.length ∧ s.ps.length - i ≤ gm ∧ Hid (Hq w wr [] [(B1, s.cs SA sa), (B2, s.cs SB sb)]))
  case atStart => exact ⟨0, rfl, by omega, by omega, LL⟩
  case round =>
    clear LL
    obtain ⟨i, rfl, hil, hgm, LL⟩ := hrel
    by_cases hlt : i < s.ps.length
    · have dlt : decide ((i : Int) < (s.ps.length : Int)) = true := decide_eq_true (by omega)
      have hw1 : IntKind.i64.wrap ((i : Int) + 1) = (i : Int) + 1 := by have := unhide HZ; rw [IntKind.wrap_i64]; omega
      obtain ⟨p, hp⟩ : ∃ p, s.ps[i]? = some p := ⟨_, List.getElem?_eq_getElem hlt⟩
      obtain ⟨_, b, off, hA, hb, hrg⟩ := (unhide HA) i p hp
      obtain ⟨_, b2, off2, hB, hb2, hrg2⟩ := (unhide HB) i p hp
      subst hA hB
      have hE : ∀ w, Calls Tryd.prog 13 #[.agg p.d.cs.toArray, .agg p.d.cs.toArray] w fun e w' => e = .returned (.bool true) ∧ Below w.heap.size w w' := fun w => by
        have := eqD_any p.d p.d w
        rw [eqD_self, dagg] at this
        exact this
      have HLT := hide hlt
      clear hil
      go_wp2_with (first | go_skip | ((with_reducible show wpList _ _ _ _ _ _); first | ((refine rd (by rfl) (ex_load1 26 Tryd.isAgg26 rfl rfl ((unhide LL).get 0 rfl) rfl) ?_); simp only [Act.put, List.setIfInBounds_toArray, List.set_cons_succ, List.set_cons_zero]) | ((refine rd (by rfl) (ex_lenG 26 46 Tryd.underlying26 rfl rfl) ?_); simp only [Act.put, List.setIfInBounds_toArray, List.set_cons_succ, List.set_cons_zero])))
      have hq0 : Hq w _ [] [(B1, s.cs (some ⟨b, off, none⟩) sa), (B2, s.cs (some ⟨b2, off2, none⟩) sb)] := (unhide LL).drew
      refine wp_region_held_drew (P := Tryd.prog) (S := fun X => Hq w X [] [(B1, s.cs (some ⟨b, off, none⟩) sa), (B2, s.cs (some ⟨b2, off2, none⟩) sb)]) (by kernel_rfl) hq0 (fun hS0 => ?_)
      refine gsem 0 (some 42) (.pointer (some ⟨B1, 7, none⟩)) rfl (by kernel_rfl) (by kernel_rfl) (by kernel_rfl) (fun _ _ _ h => h) (by kernel_rfl) (by kernel_rfl) (fun _ _ => by kernel_rfl) hq0 ?_
      simp only [Act.put, List.setIfInBounds_toArray, List.set_cons_succ, List.set_cons_zero]
      refine gsem 1 (some 43) (.slice (some ⟨b, off, none⟩) s.ps.length sa) rfl (by kernel_rfl) (by kernel_rfl) (by kernel_rfl) (fun _ _ _ h => h) (by kernel_rfl) (by kernel_rfl) (fun X hX => ex_load1 26 Tryd.isAgg26 rfl rfl (hX.get 0 rfl) rfl) hq0 ?_
      simp only [Act.put, List.setIfInBounds_toArray, List.set_cons_succ, List.set_cons_zero]
      refine gsem 2 (some 44) (.int .i64 (i : Nat)) rfl (by kernel_rfl) (by kernel_rfl) (by kernel_rfl) (fun _ _ _ h => h) (by kernel_rfl) (by kernel_rfl) (fun _ _ => by kernel_rfl) hq0 ?_
      simp only [Act.put, List.setIfInBounds_toArray, List.set_cons_succ, List.set_cons_zero]
      refine gsem 3 (some 45) (.pointer (some ⟨b, off + i * 20, none⟩)) rfl (by kernel_rfl) (by kernel_rfl) (by kernel_rfl) (fun _ _ _ h => h) (by kernel_rfl) (by kernel_rfl) (fun X hX => ex_indexG 26 20 i und26 idx26 rfl rfl rfl hlt) hq0 ?_
      simp only [Act.put, List.setIfInBounds_toArray, List.set_cons_succ, List.set_cons_zero]
      refine gsem 4 (some 46) (.pointer (some ⟨b, off + i * 20, none⟩)) rfl (by kernel_rfl) (by kernel_rfl) (by kernel_rfl) (fun _ _ _ h => h) (by kernel_rfl) (by kernel_rfl) (fun _ _ => by kernel_rfl) hq0 ?_
      simp only [Act.put, List.setIfInBounds_toArray, List.set_cons_succ, List.set_cons_zero]
      refine gsem 5 (some 47) (.agg p.k.cs.toArray) rfl (by kernel_rfl) (by kernel_rfl) (by kernel_rfl) (fun _ _ _ h => h) (by kernel_rfl) (by kernel_rfl) (fun X hX => ex_loadR (vs := p.k.cs) 41 2 row41 siz41 rfl rfl (range_left (a := p.k.cs) (c := p.d.cs) (rangeAt_fr hrg hb hX.fr)) rfl) hq0 ?_
      simp only [Act.put, List.setIfInBounds_toArray, List.set_cons_succ, List.set_cons_zero]
      refine gsem 6 (some 48) (.pointer (some ⟨B2, 7, none⟩)) rfl (by kernel_rfl) (by kernel_rfl) (by kernel_rfl) (fun _ _ _ h => h) (by kernel_rfl) (by kernel_rfl) (fun _ _ => by kernel_rfl) hq0 ?_
      simp only [Act.put, List.setIfInBounds_toArray, List.set_cons_succ, List.set_cons_zero]
      refine gsem 7 (some 49) (.slice (some ⟨b2, off2, none⟩) s.ps.length sb) rfl (by kernel_rfl) (by kernel_rfl) (by kernel_rfl) (fun _ _ _ h => h) (by kernel_rfl) (by kernel_rfl) (fun X hX => ex_load1 26 Tryd.isAgg26 rfl rfl (hX.get 1 rfl) rfl) hq0 ?_
      simp only [Act.put, List.setIfInBounds_toArray, List.set_cons_succ, List.set_cons_zero]
      refine gsem 8 (some 50) (.int .i64 (i : Nat)) rfl (by kernel_rfl) (by kernel_rfl) (by kernel_rfl) (fun _ _ _ h => h) (by kernel_rfl) (by kernel_rfl) (fun _ _ => by kernel_rfl) hq0 ?_
      simp only [Act.put, List.setIfInBounds_toArray, List.set_cons_succ, List.set_cons_zero]
      refine gsem 9 (some 51) (.pointer (some ⟨b2, off2 + i * 20, none⟩)) rfl (by kernel_rfl) (by kernel_rfl) (by kernel_rfl) (fun _ _ _ h => h) (by kernel_rfl) (by kernel_rfl) (fun X hX => ex_indexG 26 20 i und26 idx26 rfl rfl rfl hlt) hq0 ?_
      simp only [Act.put, List.setIfInBounds_toArray, List.set_cons_succ, List.set_cons_zero]
      refine gsem 10 (some 52) (.pointer (some ⟨b2, off2 + i * 20, none⟩)) rfl (by kernel_rfl) (by kernel_rfl) (by kernel_rfl) (fun _ _ _ h => h) (by kernel_rfl) (by kernel_rfl) (fun _ _ => by kernel_rfl) hq0 ?_
      simp only [Act.put, List.setIfInBounds_toArray, List.set_cons_succ, List.set_cons_zero]
      refine gsem 11 (some 53) (.agg p.k.cs.toArray) rfl (by kernel_rfl) (by kernel_rfl) (by kernel_rfl) (fun _ _ _ h => h) (by kernel_rfl) (by kernel_rfl) (fun X hX => ex_loadR (vs := p.k.cs) 41 2 row41 siz41 rfl rfl (range_left (a := p.k.cs) (c := p.d.cs) (rangeAt_fr hrg2 hb2 hX.fr)) rfl) hq0 ?_
      simp only [Act.put, List.setIfInBounds_toArray, List.set_cons_succ, List.set_cons_zero]
      refine gsem 12 (some 54) (.bool false) rfl (by kernel_rfl) (by kernel_rfl) (by kernel_rfl) (fun _ _ _ h => h) (by kernel_rfl) (by kernel_rfl) (fun X hX => ex_neq41 p.k rfl rfl rfl) hq0 ?_
      simp only [Act.put, List.setIfInBounds_toArray, List.set_cons_succ, List.set_cons_zero]
      refine gsem 13 (some 55) (.bool false) rfl (by kernel_rfl) (by kernel_rfl) (by kernel_rfl) (fun _ _ _ h => h) (by kernel_rfl) (by kernel_rfl) (fun _ _ => by kernel_rfl) hq0 ?_
      simp only [Act.put, List.setIfInBounds_toArray, List.set_cons_succ, List.set_cons_zero]
      refine gsem 14 (some 56) (.pointer (some ⟨B1, 7, none⟩)) rfl (by kernel_rfl) (by kernel_rfl) (by kernel_rfl) (fun _ _ _ h => h) (by kernel_rfl) (by kernel_rfl) (fun _ _ => by kernel_rfl) hq0 ?_
      simp only [Act.put, List.setIfInBounds_toArray, List.set_cons_succ, List.set_cons_zero]
      refine gsem 15 (some 57) (.slice (some ⟨b, off, none⟩) s.ps.length sa) rfl (by kernel_rfl) (by kernel_rfl) (by kernel_rfl) (fun _ _ _ h => h) (by kernel_rfl) (by kernel_rfl) (fun X hX => ex_load1 26 Tryd.isAgg26 rfl rfl (hX.get 0 rfl) rfl) hq0 ?_
      simp only [Act.put, List.setIfInBounds_toArray, List.set_cons_succ, List.set_cons_zero]
      refine gsem 16 (some 58) (.int .i64 (i : Nat)) rfl (by kernel_rfl) (by kernel_rfl) (by kernel_rfl) (fun _ _ _ h => h) (by kernel_rfl) (by kernel_rfl) (fun _ _ => by kernel_rfl) hq0 ?_
      simp only [Act.put, List.setIfInBounds_toArray, List.set_cons_succ, List.set_cons_zero]
      refine gsem 17 (some 59) (.pointer (some ⟨b, off + i * 20, none⟩)) rfl (by kernel_rfl) (by kernel_rfl) (by kernel_rfl) (fun _ _ _ h => h) (by kernel_rfl) (by kernel_rfl) (fun X hX => ex_indexG 26 20 i und26 idx26 rfl rfl rfl hlt) hq0 ?_
      simp only [Act.put, List.setIfInBounds_toArray, List.set_cons_succ, List.set_cons_zero]
      refine gsem 18 (some 60) (.pointer (some ⟨b, off + i * 20 + 2, none⟩)) rfl (by kernel_rfl) (by kernel_rfl) (by kernel_rfl) (fun _ _ _ h => h) (by kernel_rfl) (by kernel_rfl) (fun _ _ => by kernel_rfl) hq0 ?_
      simp only [Act.put, List.setIfInBounds_toArray, List.set_cons_succ, List.set_cons_zero]
      refine gsem 19 (some 61) (.agg p.d.cs.toArray) rfl (by kernel_rfl) (by kernel_rfl) (by kernel_rfl) (fun _ _ _ h => h) (by kernel_rfl) (by kernel_rfl) (fun X hX => ex_loadR (vs := p.d.cs) 44 18 row44 siz44 rfl rfl (range_right (a := p.k.cs) (c := p.d.cs) (rangeAt_fr hrg hb hX.fr)) rfl) hq0 ?_
      simp only [Act.put, List.setIfInBounds_toArray, List.set_cons_succ, List.set_cons_zero]
      refine gsem 20 (some 62) (.pointer (some ⟨B2, 7, none⟩)) rfl (by kernel_rfl) (by kernel_rfl) (by kernel_rfl) (fun _ _ _ h => h) (by kernel_rfl) (by kernel_rfl) (fun _ _ => by kernel_rfl) hq0 ?_
      simp only [Act.put, List.setIfInBounds_toArray, List.set_cons_succ, List.set_cons_zero]
      refine gsem 21 (some 63) (.slice (some ⟨b2, off2, none⟩) s.ps.length sb) rfl (by kernel_rfl) (by kernel_rfl) (by kernel_rfl) (fun _ _ _ h => h) (by kernel_rfl) (by kernel_rfl) (fun X hX => ex_load1 26 Tryd.isAgg26 rfl rfl (hX.get 1 rfl) rfl) hq0 ?_
      simp only [Act.put, List.setIfInBounds_toArray, List.set_cons_succ, List.set_cons_zero]
      refine gsem 22 (some 64) (.int .i64 (i : Nat)) rfl (by kernel_rfl) (by kernel_rfl) (by kernel_rfl) (fun _ _ _ h => h) (by kernel_rfl) (by kernel_rfl) (fun _ _ => by kernel_rfl) hq0 ?_
      simp only [Act.put, List.setIfInBounds_toArray, List.set_cons_succ, List.set_cons_zero]
      refine gsem 23 (some 65) (.pointer (some ⟨b2, off2 + i * 20, none⟩)) rfl (by kernel_rfl) (by kernel_rfl) (by kernel_rfl) (fun _ _ _ h => h) (by kernel_rfl) (by kernel_rfl) (fun X hX => ex_indexG 26 20 i und26 idx26 rfl rfl rfl hlt) hq0 ?_
      simp only [Act.put, List.setIfInBounds_toArray, List.set_cons_succ, List.set_cons_zero]
      refine gsem 24 (some 66) (.pointer (some ⟨b2, off2 + i * 20 + 2, none⟩)) rfl (by kernel_rfl) (by kernel_rfl) (by kernel_rfl) (fun _ _ _ h => h) (by kernel_rfl) (by kernel_rfl) (fun _ _ => by kernel_rfl) hq0 ?_
      simp only [Act.put, List.setIfInBounds_toArray, List.set_cons_succ, List.set_cons_zero]
      refine gsem 25 (some 67) (.agg p.d.cs.toArray) rfl (by kernel_rfl) (by kernel_rfl) (by kernel_rfl) (fun _ _ _ h => h) (by kernel_rfl) (by kernel_rfl) (fun X hX => ex_loadR (vs := p.d.cs) 44 18 row44 siz44 rfl rfl (range_right (a := p.k.cs) (c := p.d.cs) (rangeAt_fr hrg2 hb2 hX.fr)) rfl) hq0 ?_
      simp only [Act.put, List.setIfInBounds_toArray, List.set_cons_succ, List.set_cons_zero]
      refine wpAnyH_ready (rs := [26]) (by kernel_rfl) (by simp) (gcallR 26 (some 68) rfl (by kernel_rfl) (by kernel_rfl) (by kernel_rfl) (hE _) ?_ AllReadyH.nil)
      rintro e X8 ⟨rfl, hb8⟩
      have hq8 := hq0.on hb8
      refine ⟨_, rfl, hq8, ?_⟩
      simp only [Act.put, List.setIfInBounds_toArray, List.set_cons_succ, List.set_cons_zero]
      refine gsem 27 (some 69) (.bool false) rfl (by kernel_rfl) (by kernel_rfl) (by kernel_rfl) (fun _ _ _ h => h) (by kernel_rfl) (by kernel_rfl) (fun _ _ => by kernel_rfl) hq8 ?_
      simp only [Act.put, List.setIfInBounds_toArray, List.set_cons_succ, List.set_cons_zero]
      refine gsem 28 (some 70) (.bool false) rfl (by kernel_rfl) (by kernel_rfl) (by kernel_rfl) (fun _ _ _ h => h) (by kernel_rfl) (by kernel_rfl) (fun _ _ => by kernel_rfl) hq8 ?_
      simp only [Act.put, List.setIfInBounds_toArray, List.set_cons_succ, List.set_cons_zero]
      refine wpAnyH_done (by kernel_rfl) ?_ _
      try simp only [Act.put, List.setIfInBounds_toArray, List.set_cons_succ, List.set_cons_zero]
      replace LL := hide hq8
      clear hq0 hq8 hS0 hb8 hE hp hb hrg hb2 hrg2 hlt
      go_wp2
      go_roundg (s.ps.length - (i + 1))
      case measure => have := unhide HLT; omega
      case rel => exact ⟨i + 1, by go_num, by have := unhide HLT; omega, by omega, LL⟩
    · obtain rfl : i = s.ps.length := by omega
      clear hlt hil
      go_wp2_with (first | go_skip | ((with_reducible show wpList _ _ _ _ _ _); first | ((refine rd (by rfl) (ex_load1 26 Tryd.isAgg26 rfl rfl ((unhide LL).get 0 rfl) rfl) ?_); simp only [Act.put, List.setIfInBounds_toArray, List.set_cons_succ, List.set_cons_zero]) | ((refine rd (by rfl) (ex_lenG 26 46 Tryd.underlying26 rfl rfl) ?_); simp only [Act.put, List.setIfInBounds_toArray, List.set_cons_succ, List.set_cons_zero])))
      go_ret
      exact ⟨rfl, (unhide LL).fr.below⟩
end Go.Proofs.YtmpdhmdmfmgamaaDoor
