import Derived.Test.YtmgflhhealdfoaaGreatDoorRx
set_option linter.all false
namespace Go.Proofs.YtmgflhhealdfoaaGreatDoor
set_option maxHeartbeats 1000000
section
open Go Go.Proofs Go.Maps Go.RowKit FM
attribute [local go_sem] mm_GetOwnProperty mm_DefineOwnProperty mm_Get ta_caller ta_builder
theorem ex_errN {o : Oper} {a : Act} {w : World} {x : Operand} (ho : o.op = .binOp .neq 33 x (.const .nilIface) 33) (hx : a.eval x = .nilIface) : (execOp a.eval o).run Tryz.prog w = .ok (.value (.bool false)) w := by
  unfold execOp
  simp only [ho, hx, show a.eval (.const .nilIface) = .nilIface from rfl]
  simp [go_sem, eqGuard]
theorem ex_errY {o : Oper} {a : Act} {w : World} {x : Operand} {c : Int} (ho : o.op = .binOp .neq 33 x (.const .nilIface) 33) (hx : a.eval x = ePair c) : (execOp a.eval o).run Tryz.prog w = .ok (.value (.bool true)) w := by
  unfold execOp
  simp only [ho, hx, ePair, show a.eval (.const .nilIface) = .nilIface from rfl]
  simp [go_sem, eqGuard]
theorem ex_subW {o : Oper} {a : Act} {w : World} {x : Operand} {n m : Int} (ho : o.op = .binOp .sub 3 x (.const (.int .i64 1)) 3) (hx : a.eval x = .int .i64 n) (_ : n = n) (h : IntKind.i64.wrap (n - 1) = m) : (execOp a.eval o).run Tryz.prog w = .ok (.value (.int .i64 m)) w := by
  unfold execOp
  simp only [ho, hx, show a.eval (.const (.int .i64 1)) = .int .i64 1 from rfl]
  simp [go_sem, h]
theorem prop_rng {X : World} {base g n c i : Nat} {P : List (KK × DD)} {x : KK × DD} (h : X.ownsRow base 53 20 (.slice (some ⟨g, 0, none⟩) n c) n (flatP P)) (hn : P.length = n) (hi : P[i]? = some x) : X.rangeAt g (0 + i * 20) (x.1.cs ++ x.2.cs) := by
  obtain ⟨hlt, he⟩ := List.getElem?_eq_some_iff.1 hi
  obtain ⟨g', c', e1, -, -, h4⟩ := own_row (f := fun x : KK × DD => x.1.cs ++ x.2.cs) (k := 20) (fun _ => rfl) h hn i hlt
  cases e1
  rw [he] at h4
  exact h4
theorem prop_key {X : World} {base g n c i : Nat} {P : List (KK × DD)} {x : KK × DD} (h : X.ownsRow base 53 20 (.slice (some ⟨g, 0, none⟩) n c) n (flatP P)) (hn : P.length = n) (hi : P[i]? = some x) : X.rangeAt g (0 + i * 20) x.1.cs := range_left (prop_rng h hn hi)
theorem prop_val {X : World} {base g n c i : Nat} {P : List (KK × DD)} {k : KK} {v : VV} (h : X.ownsRow base 53 20 (.slice (some ⟨g, 0, none⟩) n c) n (flatP P)) (hn : P.length = n) (hi : P[i]? = some (k, dn v)) : X.rangeAt g (0 + i * 20 + 2) v.cs := by
  have h1 : X.rangeAt g (0 + i * 20 + 2) (dn v).cs := range_right (prop_rng h hn hi)
  have h2 : (dn v).cs = v.cs ++ ((dn v).cs.drop 5) := rfl
  rw [h2] at h1
  exact range_left h1
theorem bodC_ok (v : VV) (ct : Bool) (k d : KK) (hx64 : v.x < 2 ^ 64) : ∀ o ∈ bodC v ct k d, OkO o ∧ (o.e.g.k ≠ 7 ∧ o.e.s.k ≠ 7) := by
  intro o ho
  have hFD := fd_zero
  have hx0 : zeroV.x < 2 ^ 64 := by decide
  have hk7 : zeroD.g.k ≠ 7 ∧ zeroD.s.k ≠ 7 := by decide
  rcases List.mem_cons.1 ho with rfl | ho
  · exact ⟨⟨hFD, hx0, .inr (.inl rfl)⟩, hk7⟩
  rcases List.mem_cons.1 ho with rfl | ho
  · exact ⟨⟨hFD, hx64, .inl rfl⟩, hk7⟩
  rcases List.mem_cons.1 ho with rfl | ho
  · exact ⟨⟨hFD, hx0, .inr (.inr (.inr (.inr (.inr (.inr rfl)))))⟩, hk7⟩
  rcases List.mem_cons.1 ho with rfl | ho
  · exact ⟨⟨hFD, hx0, .inr (.inr (.inr (.inr (.inl rfl))))⟩, hk7⟩
  rcases List.mem_cons.1 ho with rfl | ho
  · exact ⟨⟨hFD, hx0, .inr (.inr (.inr (.inr (.inr (.inr rfl)))))⟩, hk7⟩
  rcases List.mem_cons.1 ho with rfl | ho
  · exact ⟨⟨hFD, hx0, .inr (.inr (.inr (.inl rfl)))⟩, hk7⟩
  · cases ho
set_option maxHeartbeats 2000000 in
set_option maxRecDepth 100000 in
theorem law_catch (v : VV) (ct : Bool) (k d : KK) (w : World) (h6 : 6 ≤ w.heap.size) (hT : Tabs w) (hx64 : v.x < 2 ^ 64) : Calls Tryz.prog 3 #[v.agg, .bool ct, k.agg, d.agg] w fun e w' => e = .returned (.bool true) ∧ Below w.heap.size w w' := by
  have SS := hide (Sy.nil w [])
  have HT := hide hT
  have H6 := hide h6
  have hO : ∀ o ∈ bodC v ct k d, OkO o ∧ (o.e.g.k ≠ 7 ∧ o.e.s.k ≠ 7) := bodC_ok v ct k d hx64
  clear hT h6
  rw [vagg, kagg, kagg]
  go_enter Tryz.func3, Tryz.ntmps3
  go_wp2_with (first | go_skip | ((with_reducible show wpList _ _ _ _ _ _); first | (refine zB 24 (v.cs) (by rfl) rfl rfl rfl SS ?_; clear SS; intro Xv Bv SS; simp only [Act.put, n1, n2, n3]) | (refine zB 26 (k.cs) (by rfl) rfl rfl rfl SS ?_; clear SS; intro Xk Bk SS; simp only [Act.put, n1, n2, n3]) | (refine zB 26 (d.cs) (by rfl) rfl rfl rfl SS ?_; clear SS; intro Xd Bd SS; simp only [Act.put, n1, n2, n3])))
  refine (awake_ok _ (Nat.le_trans (unhide H6) (unhide SS).fr.size) ((unhide HT).on (unhide SS).fr.below)).mono ?_
  rintro _ Y ⟨rfl, hb⟩
  replace SS := hide ((unhide SS).on hb)
  clear hb
  go_wp2_with fail
  refine (new_h 3 100 10 _ (Nat.le_trans (unhide H6) (unhide SS).fr.size)).mono ?_
  rintro _ Y0 hN
  rcases hN with ⟨h9, -⟩ | ⟨-, B0, rfl, hI, hlo, hb⟩
  · exact absurd h9 (by decide)
  replace SS := hide ((unhide SS).newh hI hb (fun b hb => by rw [new_blocks] at hb; rw [List.mem_singleton.1 hb]; exact hlo))
  clear hI hlo hb
  replace SS := hide (Sy.front (L := [boxO Bv v.cs, boxO Bk k.cs, boxO Bd d.cs]) (unhide SS))
  go_wp2_with (first | go_skip | ((with_reducible show wpList _ _ _ _ _ _); first | (refine rd (by rfl) (ex_neE0 rfl rfl rfl rfl) ?_; simp only [Act.put, n1, n2, n3]) | (refine rd (by rfl) (ex_ptr0 rfl rfl) ?_; simp only [Act.put, n1, n2, n3]) | (refine rd (by rfl) (ex_bNull rfl) ?_; simp only [Act.put, n1, n2, n3]) | (refine zA 24 (zeroV.cs) (by rfl) rfl SS ?_; clear SS; intro Xn Bn SS; simp only [Act.put, n1, n2, n3]) | (refine zS (nullV.cs) 4 24 (by rfl) rfl rfl rfl rfl (oneV _) szV SS rfl ?_; clear SS; intro Xm SS; simp only [Act.put, n1, n2, n3]) | (refine zL (nullV.cs) 24 5 4 rwV szV (by rfl) rfl rfl SS rfl rfl rfl ?_; simp only [Act.put, n1, n2, n3])))
  have HC := make_ok (newHP B0 3 100 10) nullV _ ((unhide SS).hp 0 rfl) ((unhide HT).on (unhide SS).fr.below) (by show 0 ≤ 65536; decide) (new_ok0 _ _ _ _ (by decide))
  simp only [pagg, kagg, vagg, dagg] at HC
  refine HC.mono ?_
  clear HC
  rintro e9 Y ⟨gv1, q1, rfl, ⟨a1, a2, a3, a4, a5, a6⟩, T⟩
  replace SS := hide ((unhide SS).heap 0 rfl T)
  clear T
  go_wp2_with (first | go_skip | ((with_reducible show wpList _ _ _ _ _ _); first | (refine zL (nullV.cs) 24 5 4 rwV szV (by rfl) rfl rfl SS rfl rfl rfl ?_; simp only [Act.put, n1, n2, n3]) | (refine rd (by rfl) (ex_bT3 rfl) ?_; simp only [Act.put, n1, n2, n3]) | (refine zL (v.cs) 24 5 1 rwV szV (by rfl) rfl rfl SS rfl rfl rfl ?_; simp only [Act.put, n1, n2, n3]) | (refine rd (by rfl) (ex_bOC 1 v rfl rfl) ?_; simp only [Act.put, n1, n2, n3]) | (refine zL (k.cs) 26 2 2 rwK szK (by rfl) rfl rfl SS rfl rfl rfl ?_; simp only [Act.put, n1, n2, n3]) | (refine rd (by rfl) (ex_bOD 2 1 k rfl rfl) ?_; simp only [Act.put, n1, n2, n3]) | (refine rd (by rfl) (ex_bOW ct rfl rfl) ?_; simp only [Act.put, n1, n2, n3]) | (refine zL (d.cs) 26 2 3 rwK szK (by rfl) rfl rfl SS rfl rfl rfl ?_; simp only [Act.put, n1, n2, n3]) | (refine rd (by rfl) (ex_bOD 4 3 d rfl rfl) ?_; simp only [Act.put, n1, n2, n3]) | (refine rd (by rfl) (ex_bOR 4 rfl) ?_; simp only [Act.put, n1, n2, n3]) | ((refine bsO6 (o0 := opT) (o1 := opC 1 v) (o2 := opD 2 1 k) (o3 := opW ct) (o4 := opD 4 3 d) (o5 := opR 4) (by rfl) rfl rfl rfl rfl rfl rfl rfl (unhide SS) ?_); intro Xr Br Sr; replace SS := hide Sr; clear Sr; simp only [Act.put, n1, n2, n3])))
  have HC := new_O ((newHP B0 3 100 10).more gv1 q1) nullV Br 6 (bodC v ct k d) false _ ((unhide SS).hp 0 rfl) ((unhide HT).on (unhide SS).fr.below) (by show 1 ≤ 65536; decide) rfl ((unhide SS).hold 5 rfl) (((unhide SS).hold 5 rfl).lt (by show 0 < 192; decide)) (fun hm => (unhide SS).apart (i := 0) (j := 5) rfl rfl (by decide) Br hm (List.mem_singleton.2 rfl)) (fun o ho => (hO o ho).1) (fun o ho => (hO o ho).2) (by show 6 ≤ 256; decide) (by show 0 < 6; decide) (more_ok0 _ _ _ _ _ _ (by decide))
  simp only [pagg, kagg, vagg, dagg] at HC
  refine HC.mono ?_
  clear HC
  rintro e9 Y (⟨rfl, h9, T⟩ | ⟨h9, gv2, q2, g, c, rfl, ⟨b1, b2, b3, b4, b5, b6, b7⟩, T⟩)
  · replace SS := hide ((unhide SS).heap 0 rfl T)
    clear T
    have HB := newC_no (show ((newHP B0 3 100 10).more gv1 q1).l.length = 1 from rfl) h9
    clear h9
    go_wp2_with (first | go_skip | ((with_reducible show wpList _ _ _ _ _ _); first | (refine rd (by rfl) (ex_neY rfl rfl rfl rfl) ?_; simp only [Act.put, n1, n2, n3]) | (refine rd (by rfl) (ex_errN rfl rfl) ?_; simp only [Act.put, n1, n2, n3]) | (refine rd (by rfl) (ex_errY rfl rfl) ?_; simp only [Act.put, n1, n2, n3])))
    have HC := sound_O (some ⟨Br, 0, none⟩) 6 (bodC v ct k d) _ (readsO_holds ((unhide SS).hold 5 rfl) (fun o ho => (hO o ho).1)) (((unhide HT).on (unhide SS).fr.below)).1
    rcases HB with hs | ⟨hs, h7⟩
    · rw [hs] at HC
      refine HC.mono ?_
      rintro _ Y2 ⟨rfl, hb⟩
      replace SS := hide ((unhide SS).on hb)
      clear hb
      clear HC
      go_wp2_with fail
      go_ret
      exact ⟨rfl, (unhide SS).fr.below⟩
    · rw [hs] at HC
      replace h7 := hide h7
      refine HC.mono ?_
      rintro _ Y2 ⟨rfl, hb⟩
      replace SS := hide ((unhide SS).on hb)
      clear hb
      clear HC
      go_wp2_with (first | go_skip | ((with_reducible show wpList _ _ _ _ _ _); first | (refine z1 3 Tryz.isAgg3 1 (by rfl) rfl rfl SS rfl rfl ?_; simp only [Act.put, n1, n2, n3]) | (refine rd (by rfl) (ex_eqYes rfl rfl rfl (unhide h7)) ?_; simp only [Act.put, n1, n2, n3])))
      go_ret
      exact ⟨rfl, (unhide SS).fr.below⟩
  · obtain ⟨hg, hk, hkd, hkn⟩ := newC_ok (show ((newHP B0 3 100 10).more gv1 q1).l.length = 1 from rfl) h9
    obtain ⟨h2, A2, hb2, T2⟩ : ∃ h2 : HP, CW h2 q1 q2 g c (bodC v ct k d) ∧ h2.b = B0 ∧ HP.To ((newHP B0 3 100 10).more gv1 q1) h2 _ Y := ⟨_, ⟨rfl, wb_body _ _ _ _ _, b4, b5, ⟨by show 2 ≤ 65536; decide, by show (0 : Int) ≤ 100; decide, by show (100 : Int) ≤ 9223372036854775807; decide, by show (0 : Int) ≤ 0; decide, by show (0 : Int) ≤ 10; decide, by show (10 : Int) ≤ 100000000; decide⟩, by show (50 : Int) ≤ 100; decide, by show (0 : Int) + 4 ≤ 10; decide, a3, a5, a6⟩, rfl, T⟩
    replace SS := hide ((unhide SS).heap 0 rfl T2)
    clear T T2 h9 hO b1 b2 b3 b4 b5 b6 b7 a1 a2 a3 a4 a5 a6
    go_wp2_with (first | go_skip | ((with_reducible show wpList _ _ _ _ _ _); first | (refine rd (by rfl) (ex_neY rfl rfl rfl rfl) ?_; simp only [Act.put, n1, n2, n3]) | (refine rd (by rfl) (ex_errN rfl rfl) ?_; simp only [Act.put, n1, n2, n3]) | (refine rd (by rfl) (ex_bRef rfl rfl) ?_; simp only [Act.put, n1, n2, n3])))
    have HC := c_call h2 q1 q2 g c v ct k d _ ((unhide SS).hp 0 rfl) ((unhide HT).on (unhide SS).fr.below) A2 hx64 hg hk hkd hkn
    rw [hb2] at HC
    simp only [pagg, kagg, vagg, dagg] at HC
    refine HC.mono ?_
    clear HC
    rintro e9 Y ⟨h3, V, er, x, q3, rfl, hl3, hj3, ht3, hF, N, T⟩
    have hb3 : h3.b = B0 := T.hb.trans hb2
    replace SS := hide (Sy.endO (unhide SS) T N)
    clear N T A2
    rcases hF with ⟨rfl, hp3, rfl, rfl, rfl⟩ | ⟨rfl, hp3, rfl, Bt, rfl, rfl⟩
    · by_cases hkk : k = d
      · rw [PC2_y hkk] at hp3
        have hps : q3.po.ps = [(k, dn v)] := hp3
        go_wp2_with (first | go_skip | ((with_reducible show wpList _ _ _ _ _ _); first | (refine zA 24 (zeroV.cs) (by rfl) rfl SS ?_; clear SS; intro Xy By SS; simp only [Act.put, n1, n2, n3]) | (refine zS ((boolV true).cs) 7 24 (by rfl) rfl rfl rfl rfl (oneV _) szV SS rfl ?_; clear SS; intro Xyy SS; simp only [Act.put, n1, n2, n3])))
        have HC := shape_hh h3 0 q3 _ ((unhide SS).hp 0 rfl) hl3 hj3 ht3
        rw [hb3, hps] at HC
        refine HC.mono ?_
        clear HC
        rintro _ Y3 ⟨A, c2, rfl, hO3, hb⟩
        obtain ⟨g2, hA⟩ : ∃ g2, A = some ⟨g2, 0, none⟩ := by
          obtain ⟨g2, c3, e1, -⟩ := own_row (f := fun x : KK × DD => x.1.cs ++ x.2.cs) (k := 20) (fun _ => rfl) hO3 rfl 0 (by show 0 < 1; decide)
          cases e1
          exact ⟨g2, rfl⟩
        subst hA
        replace SS := hide ((unhide SS).addRow hO3 hb (base := w.heap.size) (unhide SS).fr.size)
        clear hO3 hb
        go_wp2_with (first | go_skip | ((with_reducible show wpList _ _ _ _ _ _); first | (refine zA 48 (shC zeroPO (.slice none 0 0)) (by rfl) rfl SS ?_; clear SS; intro Xs Bs SS; simp only [Act.put, n1, n2, n3]) | (refine zS (hp := (by simp [shC, zeroPO, VV.cs])) (shC q3.po (.slice (some ⟨g2, 0, none⟩) 1 c2)) 9 48 (by rfl) rfl rfl rfl rfl (shC_one _ _ _ _) szS SS rfl ?_; clear SS; intro Xz SS; simp only [Act.put, n1, n2, n3]) | (refine rd (by rfl) (ex_neE0 rfl rfl rfl rfl) ?_; simp only [Act.put, n1, n2, n3]) | (refine zL (k.cs) 26 2 2 rwK szK (by rfl) rfl rfl SS rfl rfl rfl ?_; simp only [Act.put, n1, n2, n3]) | (refine zL (d.cs) 26 2 3 rwK szK (by rfl) rfl rfl SS rfl rfl rfl ?_; simp only [Act.put, n1, n2, n3]) | (refine rd (by rfl) (ex_eqlK rfl rfl rfl (decide_eq_true hkk)) ?_; simp only [Act.put, n1, n2, n3])))
        have HEQ := fun (X : World) => eq_any v v X
        simp only [eqB_self, vagg] at HEQ
        have HEQ0 := fun (X : World) => eq_any zeroV zeroV X
        simp only [eqB_self, vagg] at HEQ0
        have hS : Sy w _ [] [hpO h3, boxO Bv v.cs, boxO Bk k.cs, boxO Bd d.cs, boxO Bn nullV.cs, boxO Br ([opT, opC 1 v, opD 2 1 k, opW true, opD 4 3 d, opR 4].flatMap OP.cs), noO, boxO By (boolV true).cs, rowO w.heap.size 53 20 (.slice (some ⟨g2, 0, none⟩) 1 c2) 1 (flatP [(k, dn v)]), boxO Bs (shC q3.po (.slice (some ⟨g2, 0, none⟩) 1 c2))] := (unhide SS).drew
        clear SS
        refine wp_region_held_drew (P := Tryz.prog) (S := fun X => Sy w X [] _) (by kernel_rfl) (hS) (fun hS0 => ?_)
        refine gp 0 (some 94) (.nilIface) rfl rfl (hS) ?_
        simp only [Act.put, n1, n2, n3]
        refine gq 1 (some 95) (.bool true) rfl rfl (fun X hX => ex_eqNil rfl rfl) (hS) ?_
        simp only [Act.put, n1, n2, n3]
        refine gp 2 (some 96) (.bool true) rfl rfl (hS) ?_
        simp only [Act.put, n1, n2, n3]
        refine gp 3 (some 97) (.pointer (some ⟨By, 0, none⟩)) rfl rfl (hS) ?_
        simp only [Act.put, n1, n2, n3]
        refine gq 4 (some 98) (.int .i64 3) rfl rfl (fun X hX => ex_load1 3 Tryz.isAgg3 rfl rfl (hX.hold 7 rfl) rfl) (hS) ?_
        simp only [Act.put, n1, n2, n3]
        refine gq 5 (some 99) (.bool true) rfl rfl (fun X hX => ex_eqYes rfl rfl rfl rfl) (hS) ?_
        simp only [Act.put, n1, n2, n3]
        refine gp 6 (some 100) (.bool true) rfl rfl (hS) ?_
        simp only [Act.put, n1, n2, n3]
        refine gp 7 (some 101) (.bool true) rfl rfl (hS) ?_
        simp only [Act.put, n1, n2, n3]
        refine gp 8 (some 102) (.pointer (some ⟨By, 1, none⟩)) rfl rfl (hS) ?_
        simp only [Act.put, n1, n2, n3]
        refine gq 9 (some 103) (.bool true) rfl rfl (fun X hX => ex_load1 4 Tryz.isAgg4 rfl rfl (hX.hold 7 rfl) rfl) (hS) ?_
        simp only [Act.put, n1, n2, n3]
        refine gp 10 (some 104) (.bool true) rfl rfl (hS) ?_
        simp only [Act.put, n1, n2, n3]
        refine gp 11 (some 105) (.bool true) rfl rfl (hS) ?_
        simp only [Act.put, n1, n2, n3]
        refine gp 12 (some 106) (.pointer (some ⟨Bs, 7, none⟩)) rfl rfl (hS) ?_
        simp only [Act.put, n1, n2, n3]
        refine gq 13 (some 107) (.slice (some ⟨g2, 0, none⟩) 1 c2) rfl rfl (fun X hX => ex_load1 46 Tryz.isAgg46 rfl rfl (hX.hold 9 rfl) rfl) (hS) ?_
        simp only [Act.put, n1, n2, n3]
        refine gq 14 (some 108) (.int .i64 (1 : Nat)) rfl rfl (fun X hX => ex_lenG 46 53 Tryz.underlying46 rfl rfl) (hS) ?_
        simp only [Act.put, n1, n2, n3]
        refine gp 15 (some 109) (.int .i64 1) rfl rfl (hS) ?_
        simp only [Act.put, n1, n2, n3]
        refine gq 16 (some 110) (.bool true) rfl rfl (fun X hX => ex_eqYes rfl rfl rfl rfl) (hS) ?_
        simp only [Act.put, n1, n2, n3]
        refine gp 17 (some 111) (.bool true) rfl rfl (hS) ?_
        simp only [Act.put, n1, n2, n3]
        refine gp 18 (some 112) (.bool true) rfl rfl (hS) ?_
        simp only [Act.put, n1, n2, n3]
        refine gp 19 (some 113) (.pointer (some ⟨Bs, 7, none⟩)) rfl rfl (hS) ?_
        simp only [Act.put, n1, n2, n3]
        refine gq 20 (some 114) (.slice (some ⟨g2, 0, none⟩) 1 c2) rfl rfl (fun X hX => ex_load1 46 Tryz.isAgg46 rfl rfl (hX.hold 9 rfl) rfl) (hS) ?_
        simp only [Act.put, n1, n2, n3]
        refine gp 21 (some 115) (.int .i64 1) rfl rfl (hS) ?_
        simp only [Act.put, n1, n2, n3]
        refine gq 22 (some 116) (.int .i64 (0 : Nat)) rfl rfl (fun X hX => ex_subW rfl rfl rfl (by decide)) (hS) ?_
        simp only [Act.put, n1, n2, n3]
        refine gq 23 (some 117) (.pointer (some ⟨g2, 0 + 0 * 20, none⟩)) rfl rfl (fun X hX => ex_indexG 46 20 0 unPs idPs rfl rfl rfl (by decide)) (hS) ?_
        simp only [Act.put, n1, n2, n3]
        refine gp 24 (some 118) (.pointer (some ⟨g2, 0 + 0 * 20 + 2, none⟩)) rfl rfl (hS) ?_
        simp only [Act.put, n1, n2, n3]
        refine gp 25 (some 119) (.pointer (some ⟨g2, 0 + 0 * 20 + 2, none⟩)) rfl rfl (hS) ?_
        simp only [Act.put, n1, n2, n3]
        refine gq 26 (some 120) (.agg v.cs.toArray) rfl rfl (fun X hX => ex_loadR (vs := v.cs) 24 5 rwV szV rfl rfl (prop_val (i := 0) (hX.get 8 rfl) rfl rfl) rfl) (hS) ?_
        simp only [Act.put, n1, n2, n3]
        refine gq 27 (some 121) (.agg v.cs.toArray) rfl rfl (fun X hX => ex_loadN (vs := v.cs) 24 5 rwV szV rfl rfl (hX.hold 1 rfl) rfl rfl) (hS) ?_
        simp only [Act.put, n1, n2, n3]
        refine gr (rs := [28]) (gcB 28 (some 122) rfl rfl hS (HEQ _) id ?_ gn)
        intro Yt1 hqt1
        refine gp 29 (some 123) (.bool true) rfl rfl (hqt1) ?_
        simp only [Act.put, n1, n2, n3]
        refine gp 30 (some 8) (.bool true) rfl rfl (hqt1) ?_
        simp only [Act.put, n1, n2, n3]
        refine wpAnyH_done (by kernel_rfl) ?_ _
        try simp only [Act.put, n1, n2, n3]
        have SS := hide hqt1
        go_wp2
        go_ret
        exact ⟨rfl, (unhide SS).fr.below⟩
      · rw [PC2_n hkk] at hp3
        have hps : q3.po.ps = [(k, dn v), (d, dn v)] := hp3
        go_wp2_with (first | go_skip | ((with_reducible show wpList _ _ _ _ _ _); first | (refine zA 24 (zeroV.cs) (by rfl) rfl SS ?_; clear SS; intro Xy By SS; simp only [Act.put, n1, n2, n3]) | (refine zS ((boolV true).cs) 7 24 (by rfl) rfl rfl rfl rfl (oneV _) szV SS rfl ?_; clear SS; intro Xyy SS; simp only [Act.put, n1, n2, n3])))
        have HC := shape_hh h3 0 q3 _ ((unhide SS).hp 0 rfl) hl3 hj3 ht3
        rw [hb3, hps] at HC
        refine HC.mono ?_
        clear HC
        rintro _ Y3 ⟨A, c2, rfl, hO3, hb⟩
        obtain ⟨g2, hA⟩ : ∃ g2, A = some ⟨g2, 0, none⟩ := by
          obtain ⟨g2, c3, e1, -⟩ := own_row (f := fun x : KK × DD => x.1.cs ++ x.2.cs) (k := 20) (fun _ => rfl) hO3 rfl 0 (by show 0 < 2; decide)
          cases e1
          exact ⟨g2, rfl⟩
        subst hA
        replace SS := hide ((unhide SS).addRow hO3 hb (base := w.heap.size) (unhide SS).fr.size)
        clear hO3 hb
        go_wp2_with (first | go_skip | ((with_reducible show wpList _ _ _ _ _ _); first | (refine zA 48 (shC zeroPO (.slice none 0 0)) (by rfl) rfl SS ?_; clear SS; intro Xs Bs SS; simp only [Act.put, n1, n2, n3]) | (refine zS (hp := (by simp [shC, zeroPO, VV.cs])) (shC q3.po (.slice (some ⟨g2, 0, none⟩) 2 c2)) 9 48 (by rfl) rfl rfl rfl rfl (shC_one _ _ _ _) szS SS rfl ?_; clear SS; intro Xz SS; simp only [Act.put, n1, n2, n3]) | (refine rd (by rfl) (ex_neE0 rfl rfl rfl rfl) ?_; simp only [Act.put, n1, n2, n3]) | (refine zL (k.cs) 26 2 2 rwK szK (by rfl) rfl rfl SS rfl rfl rfl ?_; simp only [Act.put, n1, n2, n3]) | (refine zL (d.cs) 26 2 3 rwK szK (by rfl) rfl rfl SS rfl rfl rfl ?_; simp only [Act.put, n1, n2, n3]) | (refine rd (by rfl) (ex_eqlK rfl rfl rfl (decide_eq_false hkk)) ?_; simp only [Act.put, n1, n2, n3])))
        have HEQ := fun (X : World) => eq_any v v X
        simp only [eqB_self, vagg] at HEQ
        have HEQ0 := fun (X : World) => eq_any zeroV zeroV X
        simp only [eqB_self, vagg] at HEQ0
        have hS : Sy w _ [] [hpO h3, boxO Bv v.cs, boxO Bk k.cs, boxO Bd d.cs, boxO Bn nullV.cs, boxO Br ([opT, opC 1 v, opD 2 1 k, opW true, opD 4 3 d, opR 4].flatMap OP.cs), noO, boxO By (boolV true).cs, rowO w.heap.size 53 20 (.slice (some ⟨g2, 0, none⟩) 2 c2) 2 (flatP [(k, dn v), (d, dn v)]), boxO Bs (shC q3.po (.slice (some ⟨g2, 0, none⟩) 2 c2))] := (unhide SS).drew
        clear SS
        refine wp_region_held_drew (P := Tryz.prog) (S := fun X => Sy w X [] _) (by kernel_rfl) (hS) (fun hS0 => ?_)
        refine gp 0 (some 94) (.nilIface) rfl rfl (hS) ?_
        simp only [Act.put, n1, n2, n3]
        refine gq 1 (some 95) (.bool true) rfl rfl (fun X hX => ex_eqNil rfl rfl) (hS) ?_
        simp only [Act.put, n1, n2, n3]
        refine gp 2 (some 96) (.bool true) rfl rfl (hS) ?_
        simp only [Act.put, n1, n2, n3]
        refine gp 3 (some 97) (.pointer (some ⟨By, 0, none⟩)) rfl rfl (hS) ?_
        simp only [Act.put, n1, n2, n3]
        refine gq 4 (some 98) (.int .i64 3) rfl rfl (fun X hX => ex_load1 3 Tryz.isAgg3 rfl rfl (hX.hold 7 rfl) rfl) (hS) ?_
        simp only [Act.put, n1, n2, n3]
        refine gq 5 (some 99) (.bool true) rfl rfl (fun X hX => ex_eqYes rfl rfl rfl rfl) (hS) ?_
        simp only [Act.put, n1, n2, n3]
        refine gp 6 (some 100) (.bool true) rfl rfl (hS) ?_
        simp only [Act.put, n1, n2, n3]
        refine gp 7 (some 101) (.bool true) rfl rfl (hS) ?_
        simp only [Act.put, n1, n2, n3]
        refine gp 8 (some 102) (.pointer (some ⟨By, 1, none⟩)) rfl rfl (hS) ?_
        simp only [Act.put, n1, n2, n3]
        refine gq 9 (some 103) (.bool true) rfl rfl (fun X hX => ex_load1 4 Tryz.isAgg4 rfl rfl (hX.hold 7 rfl) rfl) (hS) ?_
        simp only [Act.put, n1, n2, n3]
        refine gp 10 (some 104) (.bool true) rfl rfl (hS) ?_
        simp only [Act.put, n1, n2, n3]
        refine gp 11 (some 105) (.bool true) rfl rfl (hS) ?_
        simp only [Act.put, n1, n2, n3]
        refine gp 12 (some 106) (.pointer (some ⟨Bs, 7, none⟩)) rfl rfl (hS) ?_
        simp only [Act.put, n1, n2, n3]
        refine gq 13 (some 107) (.slice (some ⟨g2, 0, none⟩) 2 c2) rfl rfl (fun X hX => ex_load1 46 Tryz.isAgg46 rfl rfl (hX.hold 9 rfl) rfl) (hS) ?_
        simp only [Act.put, n1, n2, n3]
        refine gq 14 (some 108) (.int .i64 (2 : Nat)) rfl rfl (fun X hX => ex_lenG 46 53 Tryz.underlying46 rfl rfl) (hS) ?_
        simp only [Act.put, n1, n2, n3]
        refine gp 15 (some 109) (.int .i64 2) rfl rfl (hS) ?_
        simp only [Act.put, n1, n2, n3]
        refine gq 16 (some 110) (.bool true) rfl rfl (fun X hX => ex_eqYes rfl rfl rfl rfl) (hS) ?_
        simp only [Act.put, n1, n2, n3]
        refine gp 17 (some 111) (.bool true) rfl rfl (hS) ?_
        simp only [Act.put, n1, n2, n3]
        refine gp 18 (some 112) (.bool true) rfl rfl (hS) ?_
        simp only [Act.put, n1, n2, n3]
        refine gp 19 (some 113) (.pointer (some ⟨Bs, 7, none⟩)) rfl rfl (hS) ?_
        simp only [Act.put, n1, n2, n3]
        refine gq 20 (some 114) (.slice (some ⟨g2, 0, none⟩) 2 c2) rfl rfl (fun X hX => ex_load1 46 Tryz.isAgg46 rfl rfl (hX.hold 9 rfl) rfl) (hS) ?_
        simp only [Act.put, n1, n2, n3]
        refine gp 21 (some 115) (.int .i64 2) rfl rfl (hS) ?_
        simp only [Act.put, n1, n2, n3]
        refine gq 22 (some 116) (.int .i64 (1 : Nat)) rfl rfl (fun X hX => ex_subW rfl rfl rfl (by decide)) (hS) ?_
        simp only [Act.put, n1, n2, n3]
        refine gq 23 (some 117) (.pointer (some ⟨g2, 0 + 1 * 20, none⟩)) rfl rfl (fun X hX => ex_indexG 46 20 1 unPs idPs rfl rfl rfl (by decide)) (hS) ?_
        simp only [Act.put, n1, n2, n3]
        refine gp 24 (some 118) (.pointer (some ⟨g2, 0 + 1 * 20 + 2, none⟩)) rfl rfl (hS) ?_
        simp only [Act.put, n1, n2, n3]
        refine gp 25 (some 119) (.pointer (some ⟨g2, 0 + 1 * 20 + 2, none⟩)) rfl rfl (hS) ?_
        simp only [Act.put, n1, n2, n3]
        refine gq 26 (some 120) (.agg v.cs.toArray) rfl rfl (fun X hX => ex_loadR (vs := v.cs) 24 5 rwV szV rfl rfl (prop_val (i := 1) (hX.get 8 rfl) rfl rfl) rfl) (hS) ?_
        simp only [Act.put, n1, n2, n3]
        refine gq 27 (some 121) (.agg v.cs.toArray) rfl rfl (fun X hX => ex_loadN (vs := v.cs) 24 5 rwV szV rfl rfl (hX.hold 1 rfl) rfl rfl) (hS) ?_
        simp only [Act.put, n1, n2, n3]
        refine gr (rs := [28]) (gcB 28 (some 122) rfl rfl hS (HEQ _) id ?_ gn)
        intro Yt1 hqt1
        refine gp 29 (some 123) (.bool true) rfl rfl (hqt1) ?_
        simp only [Act.put, n1, n2, n3]
        refine gp 30 (some 8) (.bool true) rfl rfl (hqt1) ?_
        simp only [Act.put, n1, n2, n3]
        refine wpAnyH_done (by kernel_rfl) ?_ _
        try simp only [Act.put, n1, n2, n3]
        have SS := hide hqt1
        go_wp2
        go_ret
        exact ⟨rfl, (unhide SS).fr.below⟩
    · have hps : q3.po.ps = [(k, dn v)] := hp3
      go_wp2_with (first | go_skip | ((with_reducible show wpList _ _ _ _ _ _); first | (refine zA 24 (zeroV.cs) (by rfl) rfl SS ?_; clear SS; intro Xy By SS; simp only [Act.put, n1, n2, n3]) | (refine zS (zeroV.cs) 7 24 (by rfl) rfl rfl rfl rfl (oneV _) szV SS rfl ?_; clear SS; intro Xyy SS; simp only [Act.put, n1, n2, n3])))
      have HC := shape_hh h3 0 q3 _ ((unhide SS).hp 0 rfl) hl3 hj3 ht3
      rw [hb3, hps] at HC
      refine HC.mono ?_
      clear HC
      rintro _ Y3 ⟨A, c2, rfl, hO3, hb⟩
      obtain ⟨g2, hA⟩ : ∃ g2, A = some ⟨g2, 0, none⟩ := by
        obtain ⟨g2, c3, e1, -⟩ := own_row (f := fun x : KK × DD => x.1.cs ++ x.2.cs) (k := 20) (fun _ => rfl) hO3 rfl 0 (by show 0 < 1; decide)
        cases e1
        exact ⟨g2, rfl⟩
      subst hA
      replace SS := hide ((unhide SS).addRow hO3 hb (base := w.heap.size) (unhide SS).fr.size)
      clear hO3 hb
      go_wp2_with (first | go_skip | ((with_reducible show wpList _ _ _ _ _ _); first | (refine zA 48 (shC zeroPO (.slice none 0 0)) (by rfl) rfl SS ?_; clear SS; intro Xs Bs SS; simp only [Act.put, n1, n2, n3]) | (refine zS (hp := (by simp [shC, zeroPO, VV.cs])) (shC q3.po (.slice (some ⟨g2, 0, none⟩) 1 c2)) 9 48 (by rfl) rfl rfl rfl rfl (shC_one _ _ _ _) szS SS rfl ?_; clear SS; intro Xz SS; simp only [Act.put, n1, n2, n3]) | (refine rd (by rfl) (ex_neE0 rfl rfl rfl rfl) ?_; simp only [Act.put, n1, n2, n3])))
      refine (Fault_t v Bt _ ((unhide SS).hold 6 rfl)).mono ?_
      rintro _ Y ⟨rfl, hb⟩
      replace SS := hide ((unhide SS).on hb)
      clear hb
      go_wp2_with (first | go_skip | ((with_reducible show wpList _ _ _ _ _ _); first | (refine zA 55 (fauT 0 zeroV) (by rfl) rfl SS ?_; clear SS; intro Xf Bf SS; simp only [Act.put, n1, n2, n3]) | (refine zS (hp := (by simp [fauT, VV.cs])) (fauT 1 v) 10 55 (by rfl) rfl rfl rfl rfl (fauT_one _ _) szF SS rfl ?_; clear SS; intro Xq SS; simp only [Act.put, n1, n2, n3])))
      have HEQ := fun (X : World) => eq_any v v X
      simp only [eqB_self, vagg] at HEQ
      have HEQ0 := fun (X : World) => eq_any zeroV zeroV X
      simp only [eqB_self, vagg] at HEQ0
      have hS : Sy w _ [] [hpO h3, boxO Bv v.cs, boxO Bk k.cs, boxO Bd d.cs, boxO Bn nullV.cs, boxO Br ([opT, opC 1 v, opD 2 1 k, opW false, opD 4 3 d, opR 4].flatMap OP.cs), boxO Bt (tcs 1 v), boxO By zeroV.cs, rowO w.heap.size 53 20 (.slice (some ⟨g2, 0, none⟩) 1 c2) 1 (flatP [(k, dn v)]), boxO Bs (shC q3.po (.slice (some ⟨g2, 0, none⟩) 1 c2)), boxO Bf (fauT 1 v)] := (unhide SS).drew
      clear SS
      refine wp_region_held_drew (P := Tryz.prog) (S := fun X => Sy w X [] _) (by kernel_rfl) (hS) (fun hS0 => ?_)
      refine gp 0 (some 126) (.pointer (some ⟨Bf, 1, none⟩)) rfl rfl (hS) ?_
      simp only [Act.put, n1, n2, n3]
      refine gq 1 (some 127) (.int .i64 1) rfl rfl (fun X hX => ex_load1 3 Tryz.isAgg3 rfl rfl (hX.hold 10 rfl) rfl) (hS) ?_
      simp only [Act.put, n1, n2, n3]
      refine gq 2 (some 128) (.bool true) rfl rfl (fun X hX => ex_eqYes rfl rfl rfl rfl) (hS) ?_
      simp only [Act.put, n1, n2, n3]
      refine gp 3 (some 129) (.bool true) rfl rfl (hS) ?_
      simp only [Act.put, n1, n2, n3]
      refine gp 4 (some 130) (.pointer (some ⟨Bf, 2, none⟩)) rfl rfl (hS) ?_
      simp only [Act.put, n1, n2, n3]
      refine gq 5 (some 131) (.agg v.cs.toArray) rfl rfl (fun X hX => ex_loadN (vs := v.cs) 24 5 rwV szV rfl rfl (hX.hold 10 rfl) rfl rfl) (hS) ?_
      simp only [Act.put, n1, n2, n3]
      refine gq 6 (some 132) (.agg v.cs.toArray) rfl rfl (fun X hX => ex_loadN (vs := v.cs) 24 5 rwV szV rfl rfl (hX.hold 1 rfl) rfl rfl) (hS) ?_
      simp only [Act.put, n1, n2, n3]
      refine gr (rs := [7]) (gcB 7 (some 133) rfl rfl hS (HEQ _) id ?_ gn)
      intro Yt1 hqt1
      refine gp 8 (some 134) (.bool true) rfl rfl (hqt1) ?_
      simp only [Act.put, n1, n2, n3]
      refine gp 9 (some 135) (.bool true) rfl rfl (hqt1) ?_
      simp only [Act.put, n1, n2, n3]
      refine gp 10 (some 136) (.pointer (some ⟨Bs, 7, none⟩)) rfl rfl (hqt1) ?_
      simp only [Act.put, n1, n2, n3]
      refine gq 11 (some 137) (.slice (some ⟨g2, 0, none⟩) 1 c2) rfl rfl (fun X hX => ex_load1 46 Tryz.isAgg46 rfl rfl (hX.hold 9 rfl) rfl) (hqt1) ?_
      simp only [Act.put, n1, n2, n3]
      refine gq 12 (some 138) (.int .i64 (1 : Nat)) rfl rfl (fun X hX => ex_lenG 46 53 Tryz.underlying46 rfl rfl) (hqt1) ?_
      simp only [Act.put, n1, n2, n3]
      refine gq 13 (some 139) (.bool true) rfl rfl (fun X hX => ex_eqYes rfl rfl rfl rfl) (hqt1) ?_
      simp only [Act.put, n1, n2, n3]
      refine gp 14 (some 140) (.bool true) rfl rfl (hqt1) ?_
      simp only [Act.put, n1, n2, n3]
      refine gp 15 (some 141) (.bool true) rfl rfl (hqt1) ?_
      simp only [Act.put, n1, n2, n3]
      refine gp 16 (some 142) (.pointer (some ⟨Bs, 7, none⟩)) rfl rfl (hqt1) ?_
      simp only [Act.put, n1, n2, n3]
      refine gq 17 (some 143) (.slice (some ⟨g2, 0, none⟩) 1 c2) rfl rfl (fun X hX => ex_load1 46 Tryz.isAgg46 rfl rfl (hX.hold 9 rfl) rfl) (hqt1) ?_
      simp only [Act.put, n1, n2, n3]
      refine gq 18 (some 144) (.pointer (some ⟨g2, 0 + 0 * 20, none⟩)) rfl rfl (fun X hX => ex_indexG 46 20 0 unPs idPs rfl rfl rfl (by decide)) (hqt1) ?_
      simp only [Act.put, n1, n2, n3]
      refine gp 19 (some 145) (.pointer (some ⟨g2, 0 + 0 * 20, none⟩)) rfl rfl (hqt1) ?_
      simp only [Act.put, n1, n2, n3]
      refine gq 20 (some 146) (.agg k.cs.toArray) rfl rfl (fun X hX => ex_loadR (vs := k.cs) 26 2 rwK szK rfl rfl (prop_key (i := 0) (hX.get 8 rfl) rfl rfl) rfl) (hqt1) ?_
      simp only [Act.put, n1, n2, n3]
      refine gq 21 (some 147) (.agg k.cs.toArray) rfl rfl (fun X hX => ex_loadN (vs := k.cs) 26 2 rwK szK rfl rfl (hX.hold 2 rfl) rfl rfl) (hqt1) ?_
      simp only [Act.put, n1, n2, n3]
      refine gq 22 (some 148) (.bool true) rfl rfl (fun X hX => ex_eqlK rfl rfl rfl (decide_eq_true rfl)) (hqt1) ?_
      simp only [Act.put, n1, n2, n3]
      refine gp 23 (some 149) (.bool true) rfl rfl (hqt1) ?_
      simp only [Act.put, n1, n2, n3]
      refine gp 24 (some 150) (.bool true) rfl rfl (hqt1) ?_
      simp only [Act.put, n1, n2, n3]
      refine gq 25 (some 151) (.agg zeroV.cs.toArray) rfl rfl (fun X hX => ex_loadN (vs := zeroV.cs) 24 5 rwV szV rfl rfl (hX.hold 7 rfl) rfl rfl) (hqt1) ?_
      simp only [Act.put, n1, n2, n3]
      refine gq 26 (some 152) (.agg zeroV.cs.toArray) rfl rfl (fun X hX => ex_zeroV rfl) (hqt1) ?_
      simp only [Act.put, n1, n2, n3]
      refine gr (rs := [27]) (gcB 27 (some 153) rfl rfl hqt1 (HEQ0 _) id ?_ gn)
      intro Yt2 hqt2
      refine gp 28 (some 154) (.bool true) rfl rfl (hqt2) ?_
      simp only [Act.put, n1, n2, n3]
      refine gp 29 (some 8) (.bool true) rfl rfl (hqt2) ?_
      simp only [Act.put, n1, n2, n3]
      refine wpAnyH_done (by kernel_rfl) ?_ _
      try simp only [Act.put, n1, n2, n3]
      have SS := hide hqt2
      go_wp2
      go_ret
      exact ⟨rfl, (unhide SS).fr.below⟩
