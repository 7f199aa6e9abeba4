import Derived.Test.YtpbdidnphkkenaaGreatDoorRm
set_option linter.all false
namespace Go.Proofs.YtpbdidnphkkenaaGreatDoor
set_option maxHeartbeats 1000000
section
open Go Go.Proofs Go.Maps Go.RowKit
theorem ex_eql33 {o : Oper} {a : Act} {w : World} {x y : Operand} (k : KK) (ho : o.op = .binOp .eql 33 x y 33) (hx : a.eval x = k.agg) (hy : a.eval y = k.agg) : (execOp a.eval o).run Tryz.prog w = .ok (.value (.bool true)) w := by
  have e := eql33 k k w
  rw [decide_eq_true rfl] at e
  have e2 : (eqGuard .eql 33 x y k.agg k.agg).run Tryz.prog w = .ok () w := by kernel_rfl
  unfold execOp
  simp only [ho, hx, hy]
  simp [e, e2]
theorem below_st {w X Y : World} {b : Nat} (h : Below w.heap.size w X) (hf : Fr X Y [b]) (hb : w.heap.size ≤ b) : Below w.heap.size w Y :=
  ((Fr.of_below h []).trans hf (fun c hc => .inr (by obtain rfl : c = b := (by simpa using hc); exact hb))).below
set_option maxRecDepth 100000 in
theorem play_at_out (S : PS) (k : KK) (d : DD) (inner : Value) (dep : Int) (w : World) (base N : Nat) (hS : S.Is w base N) (hN : N < 800000) (nn : Int) (ho : nn < 0 ∨ (S.T0.live.length : Int) ≤ nn) : Calls Tryz.prog 8 #[.pointer (some ⟨S.P, 0, none⟩), actV 6 k d nn inner, .int .i64 dep] w fun e w' => e = .returned (.bool true) ∧ ∃ S', S'.Is w' base (N + 1) ∧ Went S S' w w' := by
  have hes := hS.es0
  have hle := hS.rel0.len
  have C22 : Hid (∀ X, Below w.heap.size w X → Calls Tryz.prog 22 #[.pointer (some ⟨S.T0.t, 0, none⟩), .int .i64 nn] X fun e w' => e = .returned (.tuple #[.agg (zeroK.cs ++ zeroD.cs).toArray, .bool false]) ∧ Below X.heap.size X w') := hide (fun X hX => at_out S.T0 nn X (hS.bs.t0.on hX) ho)
  have C23 : Hid (∀ X, Below w.heap.size w X → Calls Tryz.prog 23 #[.pointer (some ⟨S.R0.t, 0, none⟩)] X fun e w' => ∃ A c, e = .returned (.slice A S.R0.es.length c) ∧ Below X.heap.size X w') := hide (fun X hX => by
    refine (refProps23 S.R0 X (hS.bs.r0.on hX) (by omega)).mono ?_
    rintro e w' ⟨v, rfl, h1, h2⟩
    obtain ⟨A, c, rfl⟩ := own_form h1
    exact ⟨A, c, rfl, h2⟩)
  obtain ⟨n, hn⟩ : ∃ n, n = S.R0.es.length := ⟨_, rfl⟩
  rw [← hn] at C23
  rw [hle, ← hn] at ho
  have HS0 : ∀ X, Below w.heap.size w X → S.Is X base N := fun X hX => hS.on hX
  clear hes hle hn
  have HP := hide hS.bs.hold
  have HLT := hide hS.bs.lt
  have HS := hide hS
  clear hS
  unfold actV
  go_enter Tryz.func8, Tryz.ntmps8
  go_wp2_with (first | go_skip | (refine bx 41 (actCs 6 k d nn inner) (by rfl) rfl rfl rfl (Nat.succ_pos _) (Hq.nil w S.T0.blocks) ?_; intro w1 B hB L1 hb1; replace HP := hide ((unhide HS).bs.on hb1).hold; replace HS := hide ((unhide HS).on hb1); have LL := hide L1; have HB1 := hide hb1; have HB := hide hB; clear hB L1 hb1; simp only [Act.put, nzA, nzB, nzC]) | (refine rd (by rfl) (ex_load1 26 Tryz.isAgg26 rfl rfl (unhide HP) rfl) ?_; simp only [Act.put, nzA, nzB, nzC]) | (refine rd (by rfl) (ex_load1 28 Tryz.isAgg28 rfl rfl (unhide HP) rfl) ?_; simp only [Act.put, nzA, nzB, nzC]) | (refine rd (by rfl) (ex_load1 3 Tryz.isAgg3 rfl rfl ((unhide LL).get 0 rfl) rfl) ?_; simp only [Act.put, nzA, nzB, nzC]))
  refine ((unhide C22) w1 (unhide HB1)).mono ?_
  rintro _ w2 ⟨rfl, hb⟩
  replace LL := hide ((unhide LL).on hb)
  have HX := hide ((unhide HB1).trans (hb.mono (unhide HB1).size))
  have HG : Hid (w.heap.size ≤ w2.heap.size) := hide (unhide LL).fr.size
  clear hb HB1 C22 HP
  go_wp2_with (first | go_skip | ((with_reducible show wpList _ _ _ _ _ _); first | ((refine al58 (by rfl) rfl (unhide LL) ?_); intro w3 B3 hB3 L3 hb3; replace HG : Hid (w.heap.size ≤ B3) := hide (Nat.le_trans (unhide LL).fr.size (Nat.le_of_eq hB3.symm)); replace LL := hide L3; replace HX := hide ((unhide HX).trans (hb3.mono (unhide HX).size)); (skip); clear L3 hB3 hb3; simp only [Act.put, nzA, nzB, nzC]) | ((with_reducible apply st (vs := (zeroK.cs ++ zeroD.cs)) (v := .agg (zeroK.cs ++ zeroD.cs).toArray) (b := B3) (p := 0) 1 58); (case hw => rfl); (case ho => rfl); (case hx => rfl); (case hy => rfl); (case hv => rfl); (case h1 => exact onekd _ _); (case hi => exact siz58v _ rfl); (case hL => exact unhide LL); (case hg => rfl); (case hp => simp [cput, zeroK, zeroD, zeroV, KK.cs, DD.cs, VV.cs]); (case hE => exact Or.inr (unhide HG)); intro w3 L3 hf3 hs3; replace LL := hide L3; (replace HX : Hid (Below w.heap.size w w3) := hide (below_st (unhide HX) hf3 (unhide HG))); clear L3 hf3 hs3; simp only [Act.put, nzA, nzB, nzC])))
  refine ((unhide C23) w3 (unhide HX)).mono ?_
  rintro _ w4 ⟨A, c, rfl, hb⟩
  replace LL := hide ((unhide LL).on hb)
  replace HX := hide ((unhide HX).trans (hb.mono (unhide HX).size))
  clear hb C23
  by_cases h0 : nn < 0
  · have h0' : ¬ (0 : Int) ≤ nn := by omega
    clear ho
    go_wp2_with (first | go_skip | ((with_reducible show wpList _ _ _ _ _ _); first | ((refine al58 (by rfl) rfl (unhide LL) ?_); intro w3 B3 hB3 L3 hb3; replace HG : Hid (w.heap.size ≤ B3) := hide (Nat.le_trans (unhide LL).fr.size (Nat.le_of_eq hB3.symm)); replace LL := hide L3; replace HX := hide ((unhide HX).trans (hb3.mono (unhide HX).size)); (skip); clear L3 hB3 hb3; simp only [Act.put, nzA, nzB, nzC]) | ((refine rd (by rfl) (ex_load1 3 Tryz.isAgg3 rfl rfl ((unhide LL).get 0 rfl) rfl) ?_); simp only [Act.put, nzA, nzB, nzC]) | ((refine rd (by rfl) (ex_build58z rfl) ?_); simp only [Act.put, nzA, nzB, nzC]) | ((with_reducible apply st (vs := (zeroK.cs ++ zeroD.cs)) (v := .agg (zeroK.cs ++ zeroD.cs).toArray) (b := B3) (p := 0) 2 58); (case hw => rfl); (case ho => rfl); (case hx => rfl); (case hy => rfl); (case hv => rfl); (case h1 => exact onekd _ _); (case hi => exact siz58v _ rfl); (case hL => exact unhide LL); (case hg => rfl); (case hp => simp [cput, zeroK, zeroD, zeroV, KK.cs, DD.cs, VV.cs]); (case hE => exact Or.inr (unhide HG)); intro w3 L3 hf3 hs3; replace LL := hide L3; (replace HX : Hid (Below w.heap.size w w3) := hide (below_st (unhide HX) hf3 (unhide HG))); clear L3 hf3 hs3; simp only [Act.put, nzA, nzB, nzC]) | ((refine rd (by rfl) (ex_loadN (vs := zeroK.cs) 33 2 row33x siz33 rfl rfl ((unhide LL).get 1 rfl) rfl rfl) ?_); simp only [Act.put, nzA, nzB, nzC]) | ((refine rd (by rfl) (ex_loadN (vs := zeroK.cs) 33 2 row33x siz33 rfl rfl ((unhide LL).get 2 rfl) rfl rfl) ?_); simp only [Act.put, nzA, nzB, nzC]) | ((refine rd (by rfl) (ex_loadN (vs := zeroD.cs) 39 18 row39 siz39 rfl rfl ((unhide LL).get 1 rfl) rfl rfl) ?_); simp only [Act.put, nzA, nzB, nzC]) | ((refine rd (by rfl) (ex_loadN (vs := zeroD.cs) 39 18 row39 siz39 rfl rfl ((unhide LL).get 2 rfl) rfl rfl) ?_); simp only [Act.put, nzA, nzB, nzC]) | ((refine rd (by rfl) (ex_eql33 zeroK rfl rfl rfl) ?_); simp only [Act.put, nzA, nzB, nzC])))
    refine (sameDesc21 zeroD _).mono ?_
    rintro _ w6 ⟨rfl, hb⟩
    replace HX := hide ((unhide HX).trans (hb.mono (unhide HX).size))
    clear hb
    go_wp2
    go_ret
    exact ⟨rfl, S, ((HS0 _ (unhide HX))).mono (Nat.le_succ _), Went.refl S (unhide HX)⟩
  · have h0' : (0 : Int) ≤ nn := by omega
    have h1' : decide (nn < (n : Int)) = false := decide_eq_false (by omega)
    clear ho
    go_wp2_with (first | go_skip | ((with_reducible show wpList _ _ _ _ _ _); first | ((refine al58 (by rfl) rfl (unhide LL) ?_); intro w3 B3 hB3 L3 hb3; replace HG : Hid (w.heap.size ≤ B3) := hide (Nat.le_trans (unhide LL).fr.size (Nat.le_of_eq hB3.symm)); replace LL := hide L3; replace HX := hide ((unhide HX).trans (hb3.mono (unhide HX).size)); (skip); clear L3 hB3 hb3; simp only [Act.put, nzA, nzB, nzC]) | ((refine rd (by rfl) (ex_load1 3 Tryz.isAgg3 rfl rfl ((unhide LL).get 0 rfl) rfl) ?_); simp only [Act.put, nzA, nzB, nzC]) | ((refine rd (by rfl) (ex_build58z rfl) ?_); simp only [Act.put, nzA, nzB, nzC]) | ((with_reducible apply st (vs := (zeroK.cs ++ zeroD.cs)) (v := .agg (zeroK.cs ++ zeroD.cs).toArray) (b := B3) (p := 0) 2 58); (case hw => rfl); (case ho => rfl); (case hx => rfl); (case hy => rfl); (case hv => rfl); (case h1 => exact onekd _ _); (case hi => exact siz58v _ rfl); (case hL => exact unhide LL); (case hg => rfl); (case hp => simp [cput, zeroK, zeroD, zeroV, KK.cs, DD.cs, VV.cs]); (case hE => exact Or.inr (unhide HG)); intro w3 L3 hf3 hs3; replace LL := hide L3; (replace HX : Hid (Below w.heap.size w w3) := hide (below_st (unhide HX) hf3 (unhide HG))); clear L3 hf3 hs3; simp only [Act.put, nzA, nzB, nzC]) | ((refine rd (by rfl) (ex_loadN (vs := zeroK.cs) 33 2 row33x siz33 rfl rfl ((unhide LL).get 1 rfl) rfl rfl) ?_); simp only [Act.put, nzA, nzB, nzC]) | ((refine rd (by rfl) (ex_loadN (vs := zeroK.cs) 33 2 row33x siz33 rfl rfl ((unhide LL).get 2 rfl) rfl rfl) ?_); simp only [Act.put, nzA, nzB, nzC]) | ((refine rd (by rfl) (ex_loadN (vs := zeroD.cs) 39 18 row39 siz39 rfl rfl ((unhide LL).get 1 rfl) rfl rfl) ?_); simp only [Act.put, nzA, nzB, nzC]) | ((refine rd (by rfl) (ex_loadN (vs := zeroD.cs) 39 18 row39 siz39 rfl rfl ((unhide LL).get 2 rfl) rfl rfl) ?_); simp only [Act.put, nzA, nzB, nzC]) | ((refine rd (by rfl) (ex_eql33 zeroK rfl rfl rfl) ?_); simp only [Act.put, nzA, nzB, nzC])))
    refine (sameDesc21 zeroD _).mono ?_
    rintro _ w6 ⟨rfl, hb⟩
    replace HX := hide ((unhide HX).trans (hb.mono (unhide HX).size))
    clear hb
    go_wp2
    go_ret
    exact ⟨rfl, S, ((HS0 _ (unhide HX))).mono (Nat.le_succ _), Went.refl S (unhide HX)⟩
theorem rng_on {X Y : World} {g p : Nat} {vs : List Value} (h : X.rangeAt g p vs) (he : Y.heap[g]? = X.heap[g]?) : Y.rangeAt g p vs := fun i v hv => (World.cell?_of_block he).trans (h i v hv)
set_option maxRecDepth 100000 in
theorem play_at_in (S : PS) (k : KK) (d : DD) (inner : Value) (dep : Int) (w : World) (base N : Nat) (hS : S.Is w base N) (hN : N < 800000) (j : Nat) (hj : j < S.T0.live.length) : Calls Tryz.prog 8 #[.pointer (some ⟨S.P, 0, none⟩), actV 6 k d (j : Nat) inner, .int .i64 dep] w fun e w' => e = .returned (.bool true) ∧ ∃ S', S'.Is w' base (N + 1) ∧ Went S S' w w' := by
  have hes := hS.es0
  have hle := hS.rel0.len
  have hla := hS.last.1
  obtain ⟨r, hr⟩ : ∃ r, r = S.T0.live[j] := ⟨_, rfl⟩
  have hpr : (S.R0.es.map EE.pr)[j]? = some (r.k, r.d) := by
    rw [← hS.rel0, hr]
    simp [hj, RR.pr]
  have C22 : Hid (∀ X, S.T0.Is X → Calls Tryz.prog 22 #[.pointer (some ⟨S.T0.t, 0, none⟩), .int .i64 j] X fun e w' => e = .returned (.tuple #[.agg (r.k.cs ++ r.d.cs).toArray, .bool true]) ∧ ∃ T', TT.To S.T0 T' X w' ∧ T'.live = S.T0.live) := hide (fun X hX => by rw [hr]; exact at_in S.T0 j X hX (by omega) hj)
  have C23 : Hid (∀ X, S.R0.Is X → Calls Tryz.prog 23 #[.pointer (some ⟨S.R0.t, 0, none⟩)] X fun e w' => ∃ g c, e = .returned (.slice (some ⟨g, 0, none⟩) S.R0.es.length c) ∧ Below X.heap.size X w' ∧ g < w'.heap.size ∧ w'.rangeAt g (j * 20) (r.k.cs ++ r.d.cs)) := hide (fun X hX => by
    refine (refProps23 S.R0 X hX (by omega)).mono ?_
    rintro e w' ⟨v, rfl, h1, h2⟩
    obtain ⟨A, c, rfl⟩ := own_form h1
    obtain ⟨g, rfl, -, hgl⟩ := own_some h1 (by omega)
    refine ⟨g, c, rfl, h2, hgl, ?_⟩
    have h3 := own_rows (f := fun x : KK × DD => x.1.cs ++ x.2.cs) (s := 20) (fun _ => rfl) h1 j (by simp; omega)
    have e3 : (S.R0.es.map (fun x => (x.k, x.d)))[j]'(by simp; omega) = (r.k, r.d) := by
      have := List.getElem?_eq_some_iff.1 hpr
      exact this.2
    rw [e3] at h3
    exact h3)
  obtain ⟨n, hn⟩ : ∃ n, n = S.R0.es.length := ⟨_, rfl⟩
  rw [← hn] at C23
  have hjn : j < n := by omega
  have hjz : (j : Int) < (n : Int) := by omega
  have hjd : decide ((j : Int) < (n : Int)) = true := decide_eq_true hjz
  clear hes hle hn hpr hr hj hla
  have HP := hide hS.bs.hold
  have HLT := hide hS.bs.lt
  have HS := hide hS
  clear hS
  unfold actV
  go_enter Tryz.func8, Tryz.ntmps8
  go_wp2_with (first | go_skip | (refine bx 41 (actCs 6 k d (j : Nat) inner) (by rfl) rfl rfl rfl (Nat.succ_pos _) (Hq.nil w S.T0.blocks) ?_; intro w1 B hB L1 hb1; replace HP := hide ((unhide HS).bs.on hb1).hold; replace HS := hide ((unhide HS).on hb1); have LL := hide L1; have HB1 := hide hb1; have HB := hide hB; clear hB L1 hb1; simp only [Act.put, nzA, nzB, nzC]) | (refine rd (by rfl) (ex_load1 26 Tryz.isAgg26 rfl rfl (unhide HP) rfl) ?_; simp only [Act.put, nzA, nzB, nzC]) | (refine rd (by rfl) (ex_load1 28 Tryz.isAgg28 rfl rfl (unhide HP) rfl) ?_; simp only [Act.put, nzA, nzB, nzC]) | (refine rd (by rfl) (ex_load1 3 Tryz.isAgg3 rfl rfl ((unhide LL).get 0 rfl) rfl) ?_; simp only [Act.put, nzA, nzB, nzC]))
  refine ((unhide C22) w1 (unhide HS).bs.t0).mono ?_
  rintro _ w2 ⟨rfl, T', hTo, hlv⟩
  have hR2 := (unhide HS).bs.r0.fr hTo.fr ((unhide HS).bs.d 1 3 _ _ rfl rfl (by omega)).symm
  obtain ⟨S', hS', hW'⟩ := (unhide HS).same0 hTo hlv
  have HR2 : Hid (∀ X, Below w2.heap.size w2 X → S.R0.Is X) := hide (fun X hX => hR2.on hX)
  have HF : Hid (∀ X, Below w2.heap.size w2 X → ∃ S', PS.Is S' X base (N + 1) ∧ Went S S' w X) := hide (fun X hX => ⟨S', hS'.on hX, (Went.refl S (unhide HB1)).trans (hW'.trans (Went.refl S' hX))⟩)
  replace LL := hide ((unhide LL).step hTo.fr (fun b hb => .inl hb) (fun q hq hm => by
    obtain rfl : q = (B, actCs 6 k d (j : Nat) inner) := by simpa using hq
    have h1 := (unhide HLT) S.T0.blocks (by simp [PS.parts]) B hm
    have e := unhide HB
    omega))
  have HX : Hid (Below w2.heap.size w2 w2) := hide (Below.refl _ _)
  have HG : Hid (w.heap.size ≤ w2.heap.size) := hide (unhide LL).fr.size
  clear hTo hlv hR2 hS' hW' C22 HP HS HB1
  go_wp2_with (first | go_skip | ((with_reducible show wpList _ _ _ _ _ _); first | ((refine al58 (by rfl) rfl (unhide LL) ?_); intro w3 B3 hB3 L3 hb3; replace HG : Hid (w.heap.size ≤ B3) := hide (Nat.le_trans (unhide LL).fr.size (Nat.le_of_eq hB3.symm)); replace LL := hide L3; have HG2 : Hid (w2.heap.size ≤ B3) := hide (Nat.le_of_eq hB3.symm); replace HX := hide ((unhide HX).trans (hb3.mono (unhide HX).size)); clear L3 hB3 hb3; simp only [Act.put, nzA, nzB, nzC]) | ((with_reducible apply st (vs := (r.k.cs ++ r.d.cs)) (v := .agg (r.k.cs ++ r.d.cs).toArray) (b := B3) (p := 0) 1 58); (case hw => rfl); (case ho => rfl); (case hx => rfl); (case hy => rfl); (case hv => rfl); (case h1 => exact onekd _ _); (case hi => exact siz58v _ rfl); (case hL => exact unhide LL); (case hg => rfl); (case hp => simp [cput, zeroK, zeroD, zeroV, KK.cs, DD.cs, VV.cs]); (case hE => exact Or.inr (unhide HG)); intro w3 L3 hf3 hs3; replace LL := hide L3; (replace HX : Hid (Below w2.heap.size w2 w3) := hide (below_st (unhide HX) hf3 (unhide HG2))); clear L3 hf3 hs3; simp only [Act.put, nzA, nzB, nzC])))
  refine ((unhide C23) w3 ((unhide HR2) _ (unhide HX))).mono ?_
  rintro _ w4 ⟨g, c, rfl, hb, hgl, hrg⟩
  replace LL := hide ((unhide LL).on hb)
  replace HX := hide ((unhide HX).trans (hb.mono (unhide HX).size))
  have HRG := hide hrg
  have Hgl := hide hgl
  clear hb hrg hgl C23 HR2
  go_wp2_with (first | go_skip | ((with_reducible show wpList _ _ _ _ _ _); first | ((refine al58 (by rfl) rfl (unhide LL) ?_); intro w3 B3 hB3 L3 hb3; replace HG : Hid (w.heap.size ≤ B3) := hide (Nat.le_trans (unhide LL).fr.size (Nat.le_of_eq hB3.symm)); replace LL := hide L3; have HG2 : Hid (w2.heap.size ≤ B3) := hide (Nat.le_trans (unhide HX).size (Nat.le_of_eq hB3.symm)); replace HRG := hide (rng_on (unhide HRG) (hb3.block g (unhide Hgl))); have Hgb : Hid (g ≠ B3 ∧ g < w3.heap.size) := hide ⟨by have h1 := unhide Hgl; omega, by have h1 := unhide Hgl; have h2 := hb3.size; omega⟩; replace HX := hide ((unhide HX).trans (hb3.mono (unhide HX).size)); clear L3 hB3 hb3; simp only [Act.put, nzA, nzB, nzC]) | ((refine rd (by rfl) (ex_load1 3 Tryz.isAgg3 rfl rfl ((unhide LL).get 0 rfl) rfl) ?_); simp only [Act.put, nzA, nzB, nzC]) | ((refine rd (by rfl) (ex_build58z rfl) ?_); simp only [Act.put, nzA, nzB, nzC]) | ((with_reducible apply st (vs := (zeroK.cs ++ zeroD.cs)) (v := .agg (zeroK.cs ++ zeroD.cs).toArray) (b := B3) (p := 0) 2 58); (case hw => rfl); (case ho => rfl); (case hx => rfl); (case hy => rfl); (case hv => rfl); (case h1 => exact onekd _ _); (case hi => exact siz58v _ rfl); (case hL => exact unhide LL); (case hg => rfl); (case hp => simp [cput, zeroK, zeroD, zeroV, KK.cs, DD.cs, VV.cs]); (case hE => exact Or.inr (unhide HG)); intro w3 L3 hf3 hs3; replace LL := hide L3; (replace HX : Hid (Below w2.heap.size w2 w3) := hide (below_st (unhide HX) hf3 (unhide HG2))); (replace HRG := hide (rng_on (unhide HRG) (hf3.block g (unhide Hgb).2 (by simpa using (unhide Hgb).1)))); (replace Hgb : Hid (g ≠ B3 ∧ g < w3.heap.size) := hide ⟨(unhide Hgb).1, (by have h1 := (unhide Hgb).2; omega)⟩); clear L3 hf3 hs3; simp only [Act.put, nzA, nzB, nzC]) | ((with_reducible apply st (vs := (r.k.cs ++ r.d.cs)) (v := .agg (r.k.cs ++ r.d.cs).toArray) (b := B3) (p := 0) 2 58); (case hw => rfl); (case ho => rfl); (case hx => rfl); (case hy => rfl); (case hv => rfl); (case h1 => exact onekd _ _); (case hi => exact siz58v _ rfl); (case hL => exact unhide LL); (case hg => rfl); (case hp => simp [cput, zeroK, zeroD, zeroV, KK.cs, DD.cs, VV.cs]); (case hE => exact Or.inr (unhide HG)); intro w3 L3 hf3 hs3; replace LL := hide L3; (replace HX : Hid (Below w2.heap.size w2 w3) := hide (below_st (unhide HX) hf3 (unhide HG2))); (replace HRG := hide (rng_on (unhide HRG) (hf3.block g (unhide Hgb).2 (by simpa using (unhide Hgb).1)))); (replace Hgb : Hid (g ≠ B3 ∧ g < w3.heap.size) := hide ⟨(unhide Hgb).1, (by have h1 := (unhide Hgb).2; omega)⟩); clear L3 hf3 hs3; simp only [Act.put, nzA, nzB, nzC]) | ((refine rd (by rfl) (ex_index61 j rfl rfl rfl hjn) ?_); simp only [Act.put, nzA, nzB, nzC]) | ((refine rd (by rfl) (ex_loadR (vs := r.k.cs ++ r.d.cs) 58 20 row58 siz58 rfl rfl (unhide HRG) rfl) ?_); simp only [Act.put, nzA, nzB, nzC]) | ((refine rd (by rfl) (ex_loadN (vs := r.k.cs) 33 2 row33x siz33 rfl rfl ((unhide LL).get 1 rfl) rfl rfl) ?_); simp only [Act.put, nzA, nzB, nzC]) | ((refine rd (by rfl) (ex_loadN (vs := r.k.cs) 33 2 row33x siz33 rfl rfl ((unhide LL).get 2 rfl) rfl rfl) ?_); simp only [Act.put, nzA, nzB, nzC]) | ((refine rd (by rfl) (ex_loadN (vs := r.d.cs) 39 18 row39 siz39 rfl rfl ((unhide LL).get 1 rfl) rfl rfl) ?_); simp only [Act.put, nzA, nzB, nzC]) | ((refine rd (by rfl) (ex_loadN (vs := r.d.cs) 39 18 row39 siz39 rfl rfl ((unhide LL).get 2 rfl) rfl rfl) ?_); simp only [Act.put, nzA, nzB, nzC]) | ((refine rd (by rfl) (ex_eql33 r.k rfl rfl rfl) ?_); simp only [Act.put, nzA, nzB, nzC])))
  refine (sameDesc21 r.d _).mono ?_
  rintro _ w6 ⟨rfl, hb⟩
  replace HX := hide ((unhide HX).trans (hb.mono (unhide HX).size))
  clear hb
  go_wp2
  go_ret
  exact ⟨rfl, (unhide HF) _ (unhide HX)⟩
