import Derived.Test.YtcflglloopgieaaDoorQp

/-! Iy -/
namespace Go.Proofs.YtcflglloopgieaaDoor
open Go Go.Proofs Go.Maps Go.RowKit FM
set_option linter.unusedSimpArgs false
set_option linter.unusedVariables false
set_option maxHeartbeats 1000000
theorem nzA {α : Type} (l : List α) (i : Nat) (a : α) : l.toArray.setIfInBounds i a = (l.set i a).toArray := List.setIfInBounds_toArray l i a
theorem nzB {α : Type} (x : α) (l : List α) (i : Nat) (a : α) : (x :: l).set (i + 1) a = x :: l.set i a := List.set_cons_succ
theorem nzC {α : Type} (x : α) (l : List α) (a : α) : (x :: l).set 0 a = a :: l := List.set_cons_zero
theorem eqB_self' (v : VV) : eqB v v = true := by simp [eqB]
theorem eqD_self (d : DD) : eqD d d = true := by simp [eqD, eqB_self']
theorem neq41 (k : KK) (w : World) : (binOp .neq 38 k.agg k.agg).run Tryd.prog w = .ok (.bool false) w := by
  unfold KK.agg
  have ht : Tryd.prog.underlying 38 = some (.struct (Tryd.prog.fieldsOf 38)) := by kernel_rfl
  rw [run_neq_struct, show (10000 : Nat) = 9998 + 1 + 1 from rfl, run_equalIn_struct _ _ _ _ _ ht (by kernel_rfl)]
  have hf : Tryd.prog.fieldsOf 38 = (match Tryd.prog.underlying 38 with | some (.struct f) => f | _ => #[]) := by kernel_rfl
  rw [hf, Tryd.underlying38]
  simp [Op.eqFields, go_sem, part]
theorem ex_neqK {o : Oper} {a : Act} {w : World} {x y : Operand} (k : KK) (ho : o.op = .binOp .neq 38 x y 38) (hx : a.eval x = k.agg) (hy : a.eval y = k.agg) : (execOp a.eval o).run Tryd.prog w = .ok (.value (.bool false)) w := by
  have e := neq41 k w
  have e2 : (eqGuard .neq 38 x y k.agg k.agg).run Tryd.prog w = .ok () w := by kernel_rfl
  unfold execOp
  simp only [ho, hx, hy]
  simp [e, e2]
set_option maxHeartbeats 4000000 in
set_option maxRecDepth 100000 in
theorem sameShape_self (s : SH) (SA SB : Option Addr) (sa sb : Nat) (w : World) (hA : ReadsP w SA s.ps) (hB : ReadsP w SB s.ps) (hz : s.ps.length ≤ 733007751850) (hp64 : s.p.x < 2 ^ 64) : Calls Tryd.prog 28 #[s.agg SA sa, s.agg SB sb] w fun e w' => e = .returned (.bool true) ∧ Below w.heap.size w w' := by
  have LL := hide (Hq.nil w [])
  have HA := hide hA
  have HB := hide hB
  have HZ := hide hz
  have HE := hide (refEq_any s.p s.p hp64 hp64)
  rw [eqB_self', vagg] at HE
  unfold SH.agg
  clear hA hB hz hp64
  have hc : (s.c != s.c) = false := by simp
  have hx : (s.x != s.x) = false := by simp
  have hl : ((s.ps.length : Int) != (s.ps.length : Int)) = false := by simp
  have H6 : Hid ((s.cs SA sa)[6]? = some (.bool s.x)) := hide rfl
  have H6b : Hid ((s.cs SB sb)[6]? = some (.bool s.x)) := hide rfl
  generalize s.x = sx at *
  go_enter Tryd.func28, Tryd.ntmps28
  go_wp2_with (first | go_skip | ((with_reducible show wpList _ _ _ _ _ _); first | ((refine bx 50 (s.cs SA sa) (by rfl) rfl rfl rfl (Nat.succ_pos _) (show Hq w _ [] [] from unhide LL) ?_); intro X1 B1 hE1 L1 hb1; replace LL := hide L1; clear L1 hb1 hE1; simp only [Act.put, nzA, nzB, nzC]) | ((refine bx 50 (s.cs SB sb) (by rfl) rfl rfl rfl (Nat.succ_pos _) (unhide LL) ?_); intro X2 B2 hE2 L2 hb2; replace LL := hide L2; clear L2 hb2 hE2; simp only [Act.put, nzA, nzB, nzC]) | ((refine rd (by rfl) (ex_load1 3 Tryd.isAgg3 rfl rfl ((unhide LL).get 0 rfl) rfl) ?_); simp only [Act.put, nzA, nzB, nzC]) | ((refine rd (by rfl) (ex_load1 3 Tryd.isAgg3 rfl rfl ((unhide LL).get 1 rfl) rfl) ?_); simp only [Act.put, nzA, nzB, nzC]) | ((refine rd (by rfl) (ex_loadN (vs := s.p.cs) 36 5 rwV szV rfl rfl ((unhide LL).get 0 rfl) rfl rfl) ?_); simp only [Act.put, nzA, nzB, nzC]) | ((refine rd (by rfl) (ex_loadN (vs := s.p.cs) 36 5 rwV szV rfl rfl ((unhide LL).get 1 rfl) rfl rfl) ?_); simp only [Act.put, nzA, nzB, nzC]) | ((refine rd (by rfl) (ex_load1 4 Tryd.isAgg4 rfl rfl ((unhide LL).get 0 rfl) (unhide H6)) ?_); simp only [Act.put, nzA, nzB, nzC]) | ((refine rd (by rfl) (ex_load1 4 Tryd.isAgg4 rfl rfl ((unhide LL).get 1 rfl) (unhide H6b)) ?_); simp only [Act.put, nzA, nzB, nzC]) | ((refine rd (by rfl) (ex_load1 48 Tryd.isAgg48 rfl rfl ((unhide LL).get 0 rfl) rfl) ?_); simp only [Act.put, nzA, nzB, nzC]) | ((refine rd (by rfl) (ex_load1 48 Tryd.isAgg48 rfl rfl ((unhide LL).get 1 rfl) rfl) ?_); simp only [Act.put, nzA, nzB, nzC]) | ((refine rd (by rfl) (ex_lenG 48 55 Tryd.underlying48 rfl rfl) ?_); simp only [Act.put, nzA, nzB, nzC]) | ((refine rd (by rfl) (ex_neI rfl rfl rfl hc) ?_); simp only [Act.put, nzA, nzB, nzC]) | ((refine rd (by rfl) (ex_neB rfl rfl rfl hx) ?_); simp only [Act.put, nzA, nzB, nzC]) | ((refine rd (by rfl) (ex_neI rfl rfl rfl hl) ?_); simp only [Act.put, nzA, nzB, nzC])))
  refine (unhide HE _).mono ?_
  rintro e X8 ⟨rfl, hb8⟩
  replace LL := hide ((unhide LL).on hb8)
  clear hb8
  go_wp2_with (first | go_skip | ((with_reducible show wpList _ _ _ _ _ _); first | ((refine bx 50 (s.cs SA sa) (by rfl) rfl rfl rfl (Nat.succ_pos _) (show Hq w _ [] [] from unhide LL) ?_); intro X1 B1 hE1 L1 hb1; replace LL := hide L1; clear L1 hb1 hE1; simp only [Act.put, nzA, nzB, nzC]) | ((refine bx 50 (s.cs SB sb) (by rfl) rfl rfl rfl (Nat.succ_pos _) (unhide LL) ?_); intro X2 B2 hE2 L2 hb2; replace LL := hide L2; clear L2 hb2 hE2; simp only [Act.put, nzA, nzB, nzC]) | ((refine rd (by rfl) (ex_load1 3 Tryd.isAgg3 rfl rfl ((unhide LL).get 0 rfl) rfl) ?_); simp only [Act.put, nzA, nzB, nzC]) | ((refine rd (by rfl) (ex_load1 3 Tryd.isAgg3 rfl rfl ((unhide LL).get 1 rfl) rfl) ?_); simp only [Act.put, nzA, nzB, nzC]) | ((refine rd (by rfl) (ex_loadN (vs := s.p.cs) 36 5 rwV szV rfl rfl ((unhide LL).get 0 rfl) rfl rfl) ?_); simp only [Act.put, nzA, nzB, nzC]) | ((refine rd (by rfl) (ex_loadN (vs := s.p.cs) 36 5 rwV szV rfl rfl ((unhide LL).get 1 rfl) rfl rfl) ?_); simp only [Act.put, nzA, nzB, nzC]) | ((refine rd (by rfl) (ex_load1 4 Tryd.isAgg4 rfl rfl ((unhide LL).get 0 rfl) (unhide H6)) ?_); simp only [Act.put, nzA, nzB, nzC]) | ((refine rd (by rfl) (ex_load1 4 Tryd.isAgg4 rfl rfl ((unhide LL).get 1 rfl) (unhide H6b)) ?_); simp only [Act.put, nzA, nzB, nzC]) | ((refine rd (by rfl) (ex_load1 48 Tryd.isAgg48 rfl rfl ((unhide LL).get 0 rfl) rfl) ?_); simp only [Act.put, nzA, nzB, nzC]) | ((refine rd (by rfl) (ex_load1 48 Tryd.isAgg48 rfl rfl ((unhide LL).get 1 rfl) rfl) ?_); simp only [Act.put, nzA, nzB, nzC]) | ((refine rd (by rfl) (ex_lenG 48 55 Tryd.underlying48 rfl rfl) ?_); simp only [Act.put, nzA, nzB, nzC]) | ((refine rd (by rfl) (ex_neI rfl rfl rfl hc) ?_); simp only [Act.put, nzA, nzB, nzC]) | ((refine rd (by rfl) (ex_neB rfl rfl rfl hx) ?_); simp only [Act.put, nzA, nzB, nzC]) | ((refine rd (by rfl) (ex_neI rfl rfl rfl hl) ?_); simp only [Act.put, nzA, nzB, nzC])))
  go_loopg [5] s.ps.length (fun gm s5 wr => ∃ i : Nat, s5 = .int .i64 (i : Nat) ∧ i ≤ s.ps.length ∧ s.ps.length - i ≤ gm ∧ Hid (Hq w wr [] [(B1, s.cs SA sa), (B2, s.cs SB sb)]))
  case atStart => exact ⟨0, rfl, by omega, by omega, LL⟩
  case round =>
    clear LL
    obtain ⟨i, rfl, hil, hgm, LL⟩ := hrel
    by_cases hlt : i < s.ps.length
    · have dlt : decide ((i : Int) < (s.ps.length : Int)) = true := decide_eq_true (by omega)
      have hw1 : IntKind.i64.wrap ((i : Int) + 1) = (i : Int) + 1 := by have := unhide HZ; rw [IntKind.wrap_i64]; omega
      obtain ⟨p, hp⟩ : ∃ p, s.ps[i]? = some p := ⟨_, List.getElem?_eq_getElem hlt⟩
      obtain ⟨hok, b, off, hSA, hb, hrg⟩ := (unhide HA) i p hp
      obtain ⟨_, b2, off2, hSB, hb2, hrg2⟩ := (unhide HB) i p hp
      have hE := refEqDesc_any p.d p.d hok.1 hok.1
      rw [eqD_self, dagg] at hE
      have HLT := hide hlt
      clear hil
      go_wp2_with (first | go_skip | ((with_reducible show wpList _ _ _ _ _ _); first | ((refine rd (by rfl) (ex_load1 48 Tryd.isAgg48 rfl rfl ((unhide LL).get 0 rfl) rfl) ?_); simp only [Act.put, nzA, nzB, nzC]) | ((refine rd (by rfl) (ex_lenG 48 55 Tryd.underlying48 rfl rfl) ?_); simp only [Act.put, nzA, nzB, nzC])))
      have hq0 : Hq w _ [] [(B1, s.cs SA sa), (B2, s.cs SB sb)] := (unhide LL).drew
      refine wp_region_held_drew (P := Tryd.prog) (S := fun X => Hq w X [] [(B1, s.cs SA sa), (B2, s.cs SB sb)]) (by kernel_rfl) hq0 (fun hS0 => ?_)
      refine gsem 0 (some 42) (.pointer (some ⟨B1, 7, none⟩)) rfl (by kernel_rfl) (by kernel_rfl) (by kernel_rfl) (fun _ _ _ h => h) (by kernel_rfl) (by kernel_rfl) (fun _ _ => by kernel_rfl) hq0 ?_
      simp only [Act.put, nzA, nzB, nzC]
      refine gsem 1 (some 43) (.slice SA s.ps.length sa) rfl (by kernel_rfl) (by kernel_rfl) (by kernel_rfl) (fun _ _ _ h => h) (by kernel_rfl) (by kernel_rfl) (fun X hX => ex_load1 48 Tryd.isAgg48 rfl rfl (hX.get 0 rfl) rfl) hq0 ?_
      simp only [Act.put, nzA, nzB, nzC]
      refine gsem 2 (some 44) (.int .i64 (i : Nat)) rfl (by kernel_rfl) (by kernel_rfl) (by kernel_rfl) (fun _ _ _ h => h) (by kernel_rfl) (by kernel_rfl) (fun _ _ => by kernel_rfl) hq0 ?_
      simp only [Act.put, nzA, nzB, nzC]
      refine gsem 3 (some 45) (.pointer (some ⟨b, off + i * 20, none⟩)) rfl (by kernel_rfl) (by kernel_rfl) (by kernel_rfl) (fun _ _ _ h => h) (by kernel_rfl) (by kernel_rfl) (fun X hX => ex_indexA 48 20 i unPs idPs rfl rfl hSA rfl hlt) hq0 ?_
      simp only [Act.put, nzA, nzB, nzC]
      refine gsem 4 (some 46) (.pointer (some ⟨b, off + i * 20, none⟩)) rfl (by kernel_rfl) (by kernel_rfl) (by kernel_rfl) (fun _ _ _ h => h) (by kernel_rfl) (by kernel_rfl) (fun _ _ => by kernel_rfl) hq0 ?_
      simp only [Act.put, nzA, nzB, nzC]
      refine gsem 5 (some 47) (.agg p.k.cs.toArray) rfl (by kernel_rfl) (by kernel_rfl) (by kernel_rfl) (fun _ _ _ h => h) (by kernel_rfl) (by kernel_rfl) (fun X hX => ex_loadR (vs := p.k.cs) 38 2 rwK szK rfl rfl (range_left (a := p.k.cs) (c := p.d.cs) (rangeAt_fr hrg hb hX.fr)) rfl) hq0 ?_
      simp only [Act.put, nzA, nzB, nzC]
      refine gsem 6 (some 48) (.pointer (some ⟨B2, 7, none⟩)) rfl (by kernel_rfl) (by kernel_rfl) (by kernel_rfl) (fun _ _ _ h => h) (by kernel_rfl) (by kernel_rfl) (fun _ _ => by kernel_rfl) hq0 ?_
      simp only [Act.put, nzA, nzB, nzC]
      refine gsem 7 (some 49) (.slice SB s.ps.length sb) rfl (by kernel_rfl) (by kernel_rfl) (by kernel_rfl) (fun _ _ _ h => h) (by kernel_rfl) (by kernel_rfl) (fun X hX => ex_load1 48 Tryd.isAgg48 rfl rfl (hX.get 1 rfl) rfl) hq0 ?_
      simp only [Act.put, nzA, nzB, nzC]
      refine gsem 8 (some 50) (.int .i64 (i : Nat)) rfl (by kernel_rfl) (by kernel_rfl) (by kernel_rfl) (fun _ _ _ h => h) (by kernel_rfl) (by kernel_rfl) (fun _ _ => by kernel_rfl) hq0 ?_
      simp only [Act.put, nzA, nzB, nzC]
      refine gsem 9 (some 51) (.pointer (some ⟨b2, off2 + i * 20, none⟩)) rfl (by kernel_rfl) (by kernel_rfl) (by kernel_rfl) (fun _ _ _ h => h) (by kernel_rfl) (by kernel_rfl) (fun X hX => ex_indexA 48 20 i unPs idPs rfl rfl hSB rfl hlt) hq0 ?_
      simp only [Act.put, nzA, nzB, nzC]
      refine gsem 10 (some 52) (.pointer (some ⟨b2, off2 + i * 20, none⟩)) rfl (by kernel_rfl) (by kernel_rfl) (by kernel_rfl) (fun _ _ _ h => h) (by kernel_rfl) (by kernel_rfl) (fun _ _ => by kernel_rfl) hq0 ?_
      simp only [Act.put, nzA, nzB, nzC]
      refine gsem 11 (some 53) (.agg p.k.cs.toArray) rfl (by kernel_rfl) (by kernel_rfl) (by kernel_rfl) (fun _ _ _ h => h) (by kernel_rfl) (by kernel_rfl) (fun X hX => ex_loadR (vs := p.k.cs) 38 2 rwK szK rfl rfl (range_left (a := p.k.cs) (c := p.d.cs) (rangeAt_fr hrg2 hb2 hX.fr)) rfl) hq0 ?_
      simp only [Act.put, nzA, nzB, nzC]
      refine gsem 12 (some 54) (.bool false) rfl (by kernel_rfl) (by kernel_rfl) (by kernel_rfl) (fun _ _ _ h => h) (by kernel_rfl) (by kernel_rfl) (fun X hX => ex_neqK p.k rfl rfl rfl) hq0 ?_
      simp only [Act.put, nzA, nzB, nzC]
      refine gsem 13 (some 55) (.bool false) rfl (by kernel_rfl) (by kernel_rfl) (by kernel_rfl) (fun _ _ _ h => h) (by kernel_rfl) (by kernel_rfl) (fun _ _ => by kernel_rfl) hq0 ?_
      simp only [Act.put, nzA, nzB, nzC]
      refine gsem 14 (some 56) (.pointer (some ⟨B1, 7, none⟩)) rfl (by kernel_rfl) (by kernel_rfl) (by kernel_rfl) (fun _ _ _ h => h) (by kernel_rfl) (by kernel_rfl) (fun _ _ => by kernel_rfl) hq0 ?_
      simp only [Act.put, nzA, nzB, nzC]
      refine gsem 15 (some 57) (.slice SA s.ps.length sa) rfl (by kernel_rfl) (by kernel_rfl) (by kernel_rfl) (fun _ _ _ h => h) (by kernel_rfl) (by kernel_rfl) (fun X hX => ex_load1 48 Tryd.isAgg48 rfl rfl (hX.get 0 rfl) rfl) hq0 ?_
      simp only [Act.put, nzA, nzB, nzC]
      refine gsem 16 (some 58) (.int .i64 (i : Nat)) rfl (by kernel_rfl) (by kernel_rfl) (by kernel_rfl) (fun _ _ _ h => h) (by kernel_rfl) (by kernel_rfl) (fun _ _ => by kernel_rfl) hq0 ?_
      simp only [Act.put, nzA, nzB, nzC]
      refine gsem 17 (some 59) (.pointer (some ⟨b, off + i * 20, none⟩)) rfl (by kernel_rfl) (by kernel_rfl) (by kernel_rfl) (fun _ _ _ h => h) (by kernel_rfl) (by kernel_rfl) (fun X hX => ex_indexA 48 20 i unPs idPs rfl rfl hSA rfl hlt) hq0 ?_
      simp only [Act.put, nzA, nzB, nzC]
      refine gsem 18 (some 60) (.pointer (some ⟨b, off + i * 20 + 2, none⟩)) rfl (by kernel_rfl) (by kernel_rfl) (by kernel_rfl) (fun _ _ _ h => h) (by kernel_rfl) (by kernel_rfl) (fun _ _ => by kernel_rfl) hq0 ?_
      simp only [Act.put, nzA, nzB, nzC]
      refine gsem 19 (some 61) (.agg p.d.cs.toArray) rfl (by kernel_rfl) (by kernel_rfl) (by kernel_rfl) (fun _ _ _ h => h) (by kernel_rfl) (by kernel_rfl) (fun X hX => ex_loadR (vs := p.d.cs) 41 18 rwD szD rfl rfl (range_right (a := p.k.cs) (c := p.d.cs) (rangeAt_fr hrg hb hX.fr)) rfl) hq0 ?_
      simp only [Act.put, nzA, nzB, nzC]
      refine gsem 20 (some 62) (.pointer (some ⟨B2, 7, none⟩)) rfl (by kernel_rfl) (by kernel_rfl) (by kernel_rfl) (fun _ _ _ h => h) (by kernel_rfl) (by kernel_rfl) (fun _ _ => by kernel_rfl) hq0 ?_
      simp only [Act.put, nzA, nzB, nzC]
      refine gsem 21 (some 63) (.slice SB s.ps.length sb) rfl (by kernel_rfl) (by kernel_rfl) (by kernel_rfl) (fun _ _ _ h => h) (by kernel_rfl) (by kernel_rfl) (fun X hX => ex_load1 48 Tryd.isAgg48 rfl rfl (hX.get 1 rfl) rfl) hq0 ?_
      simp only [Act.put, nzA, nzB, nzC]
      refine gsem 22 (some 64) (.int .i64 (i : Nat)) rfl (by kernel_rfl) (by kernel_rfl) (by kernel_rfl) (fun _ _ _ h => h) (by kernel_rfl) (by kernel_rfl) (fun _ _ => by kernel_rfl) hq0 ?_
      simp only [Act.put, nzA, nzB, nzC]
      refine gsem 23 (some 65) (.pointer (some ⟨b2, off2 + i * 20, none⟩)) rfl (by kernel_rfl) (by kernel_rfl) (by kernel_rfl) (fun _ _ _ h => h) (by kernel_rfl) (by kernel_rfl) (fun X hX => ex_indexA 48 20 i unPs idPs rfl rfl hSB rfl hlt) hq0 ?_
      simp only [Act.put, nzA, nzB, nzC]
      refine gsem 24 (some 66) (.pointer (some ⟨b2, off2 + i * 20 + 2, none⟩)) rfl (by kernel_rfl) (by kernel_rfl) (by kernel_rfl) (fun _ _ _ h => h) (by kernel_rfl) (by kernel_rfl) (fun _ _ => by kernel_rfl) hq0 ?_
      simp only [Act.put, nzA, nzB, nzC]
      refine gsem 25 (some 67) (.agg p.d.cs.toArray) rfl (by kernel_rfl) (by kernel_rfl) (by kernel_rfl) (fun _ _ _ h => h) (by kernel_rfl) (by kernel_rfl) (fun X hX => ex_loadR (vs := p.d.cs) 41 18 rwD szD rfl rfl (range_right (a := p.k.cs) (c := p.d.cs) (rangeAt_fr hrg2 hb2 hX.fr)) rfl) hq0 ?_
      simp only [Act.put, nzA, nzB, nzC]
      refine wpAnyH_ready (rs := [26]) (by kernel_rfl) (by simp) (gcallR 26 (some 68) rfl (by kernel_rfl) (by kernel_rfl) (by kernel_rfl) (hE _) ?_ AllReadyH.nil)
      rintro e Y8 ⟨rfl, hY8⟩
      have hq08 := Hq.on hq0 hY8
      refine ⟨_, rfl, hq08, ?_⟩
      simp only [Act.put, nzA, nzB, nzC]
      refine gsem 27 (some 69) (.bool false) rfl (by kernel_rfl) (by kernel_rfl) (by kernel_rfl) (fun _ _ _ h => h) (by kernel_rfl) (by kernel_rfl) (fun _ _ => by kernel_rfl) hq08 ?_
      simp only [Act.put, nzA, nzB, nzC]
      refine gsem 28 (some 70) (.bool false) rfl (by kernel_rfl) (by kernel_rfl) (by kernel_rfl) (fun _ _ _ h => h) (by kernel_rfl) (by kernel_rfl) (fun _ _ => by kernel_rfl) hq08 ?_
      simp only [Act.put, nzA, nzB, nzC]
      refine wpAnyH_done (by kernel_rfl) ?_ _
      try simp only [Act.put, nzA, nzB, nzC]
      replace LL := hide hq08
      clear hq0 hq08 hS0 hY8 hE hp hb hrg hb2 hrg2 hlt hok hSA hSB
      go_wp2
      go_roundg (s.ps.length - (i + 1))
      case measure => have := unhide HLT; omega
      case rel => exact ⟨i + 1, by go_num, by have := unhide HLT; omega, by omega, LL⟩
    · obtain rfl : i = s.ps.length := by omega
      clear hlt hil
      go_wp2_with (first | go_skip | ((with_reducible show wpList _ _ _ _ _ _); first | ((refine rd (by rfl) (ex_load1 48 Tryd.isAgg48 rfl rfl ((unhide LL).get 0 rfl) rfl) ?_); simp only [Act.put, nzA, nzB, nzC]) | ((refine rd (by rfl) (ex_lenG 48 55 Tryd.underlying48 rfl rfl) ?_); simp only [Act.put, nzA, nzB, nzC])))
      go_ret
      exact ⟨rfl, (unhide LL).fr.below⟩
set_option maxHeartbeats 2000000 in
set_option maxRecDepth 100000 in
theorem same_self (l : List SH) (A B : Option Addr) (ca cb : Nat) (w : World) (hA : ReadsS w A l) (hB : ReadsS w B l) (hz : l.length ≤ 100000) : Calls Tryd.prog 12 #[.slice A l.length ca, .slice B l.length cb] w fun e w' => e = .returned (.bool true) ∧ Below w.heap.size w w' := by
  have LL := hide (Hq.nil w [])
  have HA := hide hA
  have HB := hide hB
  have HZ := hide hz
  clear hA hB hz
  have hl : ((l.length : Int) != (l.length : Int)) = false := by simp
  go_enter Tryd.func12, Tryd.ntmps12
  go_wp2_with (first | go_skip | ((with_reducible show wpList _ _ _ _ _ _); first | ((refine rd (by rfl) (ex_lenG 22 50 Tryd.underlying22 rfl rfl) ?_); simp only [Act.put, nzA, nzB, nzC]) | ((refine rd (by rfl) (ex_neI rfl rfl rfl hl) ?_); simp only [Act.put, nzA, nzB, nzC])))
  go_loopg [5] l.length (fun gm s5 wr => ∃ i : Nat, s5 = .int .i64 (i : Nat) ∧ i ≤ l.length ∧ l.length - i ≤ gm ∧ Hid (Hq w wr [] []))
  case atStart => exact ⟨0, rfl, by omega, by omega, LL⟩
  case round =>
    clear LL
    obtain ⟨i, rfl, hil, hgm, LL⟩ := hrel
    by_cases hlt : i < l.length
    · have dlt : decide ((i : Int) < (l.length : Int)) = true := decide_eq_true (by omega)
      have hw1 : IntKind.i64.wrap ((i : Int) + 1) = (i : Int) + 1 := by have := unhide HZ; rw [IntKind.wrap_i64]; omega
      obtain ⟨s, hs⟩ : ∃ s, l[i]? = some s := ⟨_, List.getElem?_eq_getElem hlt⟩
      obtain ⟨hx64, hsl, b, off, SA, sa, hAe, hb, hrp, hrg⟩ := (unhide HA) i s hs
      obtain ⟨_, _, b2, off2, SB, sb, hBe, hb2, hrp2, hrg2⟩ := (unhide HB) i s hs
      have hSS := fun (X : World) (hX : Fr w X []) => sameShape_self s SA SB sa sb X (hrp.fr hX) (hrp2.fr hX) hsl hx64
      unfold SH.agg at hSS
      have HLT := hide hlt
      clear hil
      go_wp2_with (first | go_skip | ((with_reducible show wpList _ _ _ _ _ _); first | ((refine rd (by rfl) (ex_lenG 22 50 Tryd.underlying22 rfl rfl) ?_); simp only [Act.put, nzA, nzB, nzC])))
      have hq0 : Hq w _ [] [] := (unhide LL).drew
      refine wp_region_held_drew (P := Tryd.prog) (S := fun X => Hq w X [] []) (by kernel_rfl) hq0 (fun hS0 => ?_)
      refine gsem 0 (some 17) (.slice A l.length ca) rfl (by kernel_rfl) (by kernel_rfl) (by kernel_rfl) (fun _ _ _ h => h) (by kernel_rfl) (by kernel_rfl) (fun _ _ => by kernel_rfl) hq0 ?_
      simp only [Act.put, nzA, nzB, nzC]
      refine gsem 1 (some 18) (.int .i64 (i : Nat)) rfl (by kernel_rfl) (by kernel_rfl) (by kernel_rfl) (fun _ _ _ h => h) (by kernel_rfl) (by kernel_rfl) (fun _ _ => by kernel_rfl) hq0 ?_
      simp only [Act.put, nzA, nzB, nzC]
      refine gsem 2 (some 19) (.pointer (some ⟨b, off + i * 8, none⟩)) rfl (by kernel_rfl) (by kernel_rfl) (by kernel_rfl) (fun _ _ _ h => h) (by kernel_rfl) (by kernel_rfl) (fun X hX => ex_indexA 22 8 i unSs idSs rfl rfl hAe rfl hlt) hq0 ?_
      simp only [Act.put, nzA, nzB, nzC]
      refine gsem 3 (some 20) (.agg (s.cs SA sa).toArray) rfl (by kernel_rfl) (by kernel_rfl) (by kernel_rfl) (fun _ _ _ h => h) (by kernel_rfl) (by kernel_rfl) (fun X hX => ex_loadR (vs := s.cs SA sa) 50 8 rwS szS rfl rfl (rangeAt_fr hrg hb hX.fr) rfl) hq0 ?_
      simp only [Act.put, nzA, nzB, nzC]
      refine gsem 4 (some 21) (.slice B l.length cb) rfl (by kernel_rfl) (by kernel_rfl) (by kernel_rfl) (fun _ _ _ h => h) (by kernel_rfl) (by kernel_rfl) (fun _ _ => by kernel_rfl) hq0 ?_
      simp only [Act.put, nzA, nzB, nzC]
      refine gsem 5 (some 22) (.int .i64 (i : Nat)) rfl (by kernel_rfl) (by kernel_rfl) (by kernel_rfl) (fun _ _ _ h => h) (by kernel_rfl) (by kernel_rfl) (fun _ _ => by kernel_rfl) hq0 ?_
      simp only [Act.put, nzA, nzB, nzC]
      refine gsem 6 (some 23) (.pointer (some ⟨b2, off2 + i * 8, none⟩)) rfl (by kernel_rfl) (by kernel_rfl) (by kernel_rfl) (fun _ _ _ h => h) (by kernel_rfl) (by kernel_rfl) (fun X hX => ex_indexA 22 8 i unSs idSs rfl rfl hBe rfl hlt) hq0 ?_
      simp only [Act.put, nzA, nzB, nzC]
      refine gsem 7 (some 24) (.agg (s.cs SB sb).toArray) rfl (by kernel_rfl) (by kernel_rfl) (by kernel_rfl) (fun _ _ _ h => h) (by kernel_rfl) (by kernel_rfl) (fun X hX => ex_loadR (vs := s.cs SB sb) 50 8 rwS szS rfl rfl (rangeAt_fr hrg2 hb2 hX.fr) rfl) hq0 ?_
      simp only [Act.put, nzA, nzB, nzC]
      refine wpAnyH_ready (rs := [8]) (by kernel_rfl) (by simp) (gcallR 8 (some 25) rfl (by kernel_rfl) (by kernel_rfl) (by kernel_rfl) (hSS _ hq0.fr) ?_ AllReadyH.nil)
      rintro e Y8 ⟨rfl, hY8⟩
      have hq08 := Hq.on hq0 hY8
      refine ⟨_, rfl, hq08, ?_⟩
      simp only [Act.put, nzA, nzB, nzC]
      refine gsem 9 (some 26) (.bool false) rfl (by kernel_rfl) (by kernel_rfl) (by kernel_rfl) (fun _ _ _ h => h) (by kernel_rfl) (by kernel_rfl) (fun _ _ => by kernel_rfl) hq08 ?_
      simp only [Act.put, nzA, nzB, nzC]
      refine wpAnyH_done (by kernel_rfl) ?_ _
      try simp only [Act.put, nzA, nzB, nzC]
      replace LL := hide hq08
      clear hq0 hq08 hS0 hY8 hSS hs hb hrg hb2 hrg2 hlt hAe hBe hrp hrp2 hx64 hsl
      go_wp2
      go_roundg (l.length - (i + 1))
      case measure => have := unhide HLT; omega
      case rel => exact ⟨i + 1, by go_num, by have := unhide HLT; omega, by omega, LL⟩
    · obtain rfl : i = l.length := by omega
      clear hlt hil
      go_wp2_with (first | go_skip | ((with_reducible show wpList _ _ _ _ _ _); first | ((refine rd (by rfl) (ex_lenG 22 50 Tryd.underlying22 rfl rfl) ?_); simp only [Act.put, nzA, nzB, nzC])))
      go_ret
      exact ⟨rfl, (unhide LL).fr.below⟩
/-- A slice whose elements are these. -/
def ReadsL (w : World) (A : Option Addr) (l : List DL) : Prop := ∀ j d, l[j]? = some d → (d.v.x < 2 ^ 64 ∧ FD d.d) ∧ ∃ b off, A = some ⟨b, off, none⟩ ∧ b < w.heap.size ∧ w.rangeAt b (off + j * 29) d.cs
theorem ReadsL.fr {w X : World} {A : Option Addr} {l : List DL} (h : ReadsL w A l) (hf : Fr w X []) : ReadsL X A l := fun j p hp => by
  obtain ⟨h1, b, off, h2, h3, h4⟩ := h j p hp
  exact ⟨h1, b, off, h2, Nat.lt_of_lt_of_le h3 hf.size, rangeAt_fr h4 h3 hf⟩
set_option maxHeartbeats 4000000 in
set_option maxRecDepth 100000 in
theorem sameDeltas_self (l : List DL) (A B : Option Addr) (ca cb : Nat) (w : World) (hA : ReadsL w A l) (hB : ReadsL w B l) (hz : l.length ≤ 1000000) : Calls Tryd.prog 10 #[.slice A l.length ca, .slice B l.length cb] w fun e w' => e = .returned (.bool true) ∧ Below w.heap.size w w' := by
  have LL := hide (Hq.nil w [])
  have HA := hide hA
  have HB := hide hB
  have HZ := hide hz
  clear hA hB hz
  have hl : ((l.length : Int) != (l.length : Int)) = false := by simp
  go_enter Tryd.func10, Tryd.ntmps10
  go_wp2_with (first | go_skip | ((with_reducible show wpList _ _ _ _ _ _); first | ((refine rd (by rfl) (ex_lenG 25 43 Tryd.underlying25 rfl rfl) ?_); simp only [Act.put, nzA, nzB, nzC]) | ((refine rd (by rfl) (ex_neI rfl rfl rfl hl) ?_); simp only [Act.put, nzA, nzB, nzC])))
  go_loopg [5] l.length (fun gm s5 wr => ∃ i : Nat, s5 = .int .i64 (i : Nat) ∧ i ≤ l.length ∧ l.length - i ≤ gm ∧ Hid (Hq w wr [] []))
  case atStart => exact ⟨0, rfl, by omega, by omega, LL⟩
  case round =>
    clear LL
    obtain ⟨i, rfl, hil, hgm, LL⟩ := hrel
    by_cases hlt : i < l.length
    · have dlt : decide ((i : Int) < (l.length : Int)) = true := decide_eq_true (by omega)
      have hw1 : IntKind.i64.wrap ((i : Int) + 1) = (i : Int) + 1 := by have := unhide HZ; rw [IntKind.wrap_i64]; omega
      obtain ⟨d, hd⟩ : ∃ d, l[i]? = some d := ⟨_, List.getElem?_eq_getElem hlt⟩
      obtain ⟨⟨hv64, hfd⟩, b, off, hAe, hb, hrg⟩ := (unhide HA) i d hd
      obtain ⟨_, b2, off2, hBe, hb2, hrg2⟩ := (unhide HB) i d hd
      have HA1 := hide hAe
      have HB1 := hide hBe
      have HA2 : Hid (∀ X, Fr w X [] → X.rangeAt b (off + i * 29) d.cs) := hide (fun X hX => rangeAt_fr hrg hb hX)
      have HB2 : Hid (∀ X, Fr w X [] → X.rangeAt b2 (off2 + i * 29) d.cs) := hide (fun X hX => rangeAt_fr hrg2 hb2 hX)
      have HE := hide (refEq_any d.v d.v hv64 hv64)
      rw [eqB_self', vagg] at HE
      have HD := hide (refEqDesc_any d.d d.d hfd hfd)
      rw [eqD_self, dagg] at HD
      have h1 : (d.o != d.o) = false := by simp
      have h2 : (d.wh != d.wh) = false := by simp
      have h3 : (d.n != d.n) = false := by simp
      have h4 : (d.y != d.y) = false := by simp
      have H3 : Hid (d.cs[3]? = some (.bool d.y)) := hide rfl
      generalize d.y = dy at *
      have HLT := hide hlt
      clear hil hlt hd hv64 hfd hAe hb hrg hBe hb2 hrg2
      go_wp2_with (first | go_skip | ((with_reducible show wpList _ _ _ _ _ _); first | ((refine rd (by rfl) (ex_lenG 25 43 Tryd.underlying25 rfl rfl) ?_); simp only [Act.put, nzA, nzB, nzC]) | ((refine rd (by rfl) (ex_indexA 25 29 i unLs idLs rfl rfl (unhide HA1) rfl (unhide HLT)) ?_); simp only [Act.put, nzA, nzB, nzC]) | ((refine rd (by rfl) (ex_indexA 25 29 i unLs idLs rfl rfl (unhide HB1) rfl (unhide HLT)) ?_); simp only [Act.put, nzA, nzB, nzC]) | ((refine rd (by rfl) (ex_loadR (vs := d.cs) 43 29 rwL szL rfl rfl (unhide HA2 _ (unhide LL).fr) rfl) ?_); simp only [Act.put, nzA, nzB, nzC]) | ((refine rd (by rfl) (ex_loadR (vs := d.cs) 43 29 rwL szL rfl rfl (unhide HB2 _ (unhide LL).fr) rfl) ?_); simp only [Act.put, nzA, nzB, nzC]) | ((refine alG 43 zeroL.cs (by rfl) rfl (fun w => by kernel_rfl) (Nat.succ_pos _) (show Hq w _ [] [] from unhide LL) ?_); intro X6 B6 hE6 L6 hb6; have hB6 := hide (Nat.le_trans (unhide LL).fr.size (Nat.le_of_eq hE6.symm)); replace LL := hide L6; clear L6 hb6 hE6; simp only [Act.put, nzA, nzB, nzC]) | ((refine st (vs := d.cs) 0 43 (by rfl) rfl rfl rfl rfl (dlcs_one d) szL (unhide LL) rfl (by simp [DL.cs, VV.cs, KK.cs, DD.cs, zeroL]) (Or.inr (unhide hB6)) ?_); intro X8 L8 hf8 hs8; replace LL := hide L8; clear L8 hf8 hs8; simp only [Act.put, nzA, nzB, nzC]) | ((refine alG 43 zeroL.cs (by rfl) rfl (fun w => by kernel_rfl) (Nat.succ_pos _) (unhide LL) ?_); intro X7 B7 hE7 L7 hb7; have hB7 := hide (Nat.le_trans (unhide LL).fr.size (Nat.le_of_eq hE7.symm)); replace LL := hide L7; clear L7 hb7 hE7; simp only [Act.put, nzA, nzB, nzC]) | ((refine st (vs := d.cs) 1 43 (by rfl) rfl rfl rfl rfl (dlcs_one d) szL (unhide LL) rfl (by simp [DL.cs, VV.cs, KK.cs, DD.cs, zeroL]) (Or.inr (unhide hB7)) ?_); intro X9 L9 hf9 hs9; replace LL := hide L9; clear L9 hf9 hs9; simp only [Act.put, nzA, nzB, nzC]) | ((refine rd (by rfl) (ex_load1 3 Tryd.isAgg3 rfl rfl ((unhide LL).get 0 rfl) rfl) ?_); simp only [Act.put, nzA, nzB, nzC]) | ((refine rd (by rfl) (ex_load1 3 Tryd.isAgg3 rfl rfl ((unhide LL).get 1 rfl) rfl) ?_); simp only [Act.put, nzA, nzB, nzC]) | ((refine rd (by rfl) (ex_load1 4 Tryd.isAgg4 rfl rfl ((unhide LL).get 0 rfl) (unhide H3)) ?_); simp only [Act.put, nzA, nzB, nzC]) | ((refine rd (by rfl) (ex_load1 4 Tryd.isAgg4 rfl rfl ((unhide LL).get 1 rfl) (unhide H3)) ?_); simp only [Act.put, nzA, nzB, nzC]) | ((refine rd (by rfl) (ex_loadN (vs := d.v.cs) 36 5 rwV szV rfl rfl ((unhide LL).get 0 rfl) rfl rfl) ?_); simp only [Act.put, nzA, nzB, nzC]) | ((refine rd (by rfl) (ex_loadN (vs := d.v.cs) 36 5 rwV szV rfl rfl ((unhide LL).get 1 rfl) rfl rfl) ?_); simp only [Act.put, nzA, nzB, nzC]) | ((refine rd (by rfl) (ex_loadN (vs := d.k.cs) 38 2 rwK szK rfl rfl ((unhide LL).get 0 rfl) rfl rfl) ?_); simp only [Act.put, nzA, nzB, nzC]) | ((refine rd (by rfl) (ex_loadN (vs := d.k.cs) 38 2 rwK szK rfl rfl ((unhide LL).get 1 rfl) rfl rfl) ?_); simp only [Act.put, nzA, nzB, nzC]) | ((refine rd (by rfl) (ex_loadN (vs := d.d.cs) 41 18 rwD szD rfl rfl ((unhide LL).get 0 rfl) rfl rfl) ?_); simp only [Act.put, nzA, nzB, nzC]) | ((refine rd (by rfl) (ex_loadN (vs := d.d.cs) 41 18 rwD szD rfl rfl ((unhide LL).get 1 rfl) rfl rfl) ?_); simp only [Act.put, nzA, nzB, nzC]) | ((refine rd (by rfl) (ex_neI rfl rfl rfl h1) ?_); simp only [Act.put, nzA, nzB, nzC]) | ((refine rd (by rfl) (ex_neI rfl rfl rfl h2) ?_); simp only [Act.put, nzA, nzB, nzC]) | ((refine rd (by rfl) (ex_neI rfl rfl rfl h3) ?_); simp only [Act.put, nzA, nzB, nzC]) | ((refine rd (by rfl) (ex_neB rfl rfl rfl h4) ?_); simp only [Act.put, nzA, nzB, nzC]) | ((refine rd (by rfl) (ex_neqK d.k rfl rfl rfl) ?_); simp only [Act.put, nzA, nzB, nzC])))
      refine (unhide HE _).mono ?_
      rintro e Z8 ⟨rfl, hZ8⟩
      replace LL := hide ((unhide LL).on hZ8)
      clear hZ8
      go_wp2_with (first | go_skip | ((with_reducible show wpList _ _ _ _ _ _); first | ((refine rd (by rfl) (ex_lenG 25 43 Tryd.underlying25 rfl rfl) ?_); simp only [Act.put, nzA, nzB, nzC]) | ((refine rd (by rfl) (ex_indexA 25 29 i unLs idLs rfl rfl (unhide HA1) rfl (unhide HLT)) ?_); simp only [Act.put, nzA, nzB, nzC]) | ((refine rd (by rfl) (ex_indexA 25 29 i unLs idLs rfl rfl (unhide HB1) rfl (unhide HLT)) ?_); simp only [Act.put, nzA, nzB, nzC]) | ((refine rd (by rfl) (ex_loadR (vs := d.cs) 43 29 rwL szL rfl rfl (unhide HA2 _ (unhide LL).fr) rfl) ?_); simp only [Act.put, nzA, nzB, nzC]) | ((refine rd (by rfl) (ex_loadR (vs := d.cs) 43 29 rwL szL rfl rfl (unhide HB2 _ (unhide LL).fr) rfl) ?_); simp only [Act.put, nzA, nzB, nzC]) | ((refine alG 43 zeroL.cs (by rfl) rfl (fun w => by kernel_rfl) (Nat.succ_pos _) (show Hq w _ [] [] from unhide LL) ?_); intro X6 B6 hE6 L6 hb6; have hB6 := hide (Nat.le_trans (unhide LL).fr.size (Nat.le_of_eq hE6.symm)); replace LL := hide L6; clear L6 hb6 hE6; simp only [Act.put, nzA, nzB, nzC]) | ((refine st (vs := d.cs) 0 43 (by rfl) rfl rfl rfl rfl (dlcs_one d) szL (unhide LL) rfl (by simp [DL.cs, VV.cs, KK.cs, DD.cs, zeroL]) (Or.inr (unhide hB6)) ?_); intro X8 L8 hf8 hs8; replace LL := hide L8; clear L8 hf8 hs8; simp only [Act.put, nzA, nzB, nzC]) | ((refine alG 43 zeroL.cs (by rfl) rfl (fun w => by kernel_rfl) (Nat.succ_pos _) (unhide LL) ?_); intro X7 B7 hE7 L7 hb7; have hB7 := hide (Nat.le_trans (unhide LL).fr.size (Nat.le_of_eq hE7.symm)); replace LL := hide L7; clear L7 hb7 hE7; simp only [Act.put, nzA, nzB, nzC]) | ((refine st (vs := d.cs) 1 43 (by rfl) rfl rfl rfl rfl (dlcs_one d) szL (unhide LL) rfl (by simp [DL.cs, VV.cs, KK.cs, DD.cs, zeroL]) (Or.inr (unhide hB7)) ?_); intro X9 L9 hf9 hs9; replace LL := hide L9; clear L9 hf9 hs9; simp only [Act.put, nzA, nzB, nzC]) | ((refine rd (by rfl) (ex_load1 3 Tryd.isAgg3 rfl rfl ((unhide LL).get 0 rfl) rfl) ?_); simp only [Act.put, nzA, nzB, nzC]) | ((refine rd (by rfl) (ex_load1 3 Tryd.isAgg3 rfl rfl ((unhide LL).get 1 rfl) rfl) ?_); simp only [Act.put, nzA, nzB, nzC]) | ((refine rd (by rfl) (ex_load1 4 Tryd.isAgg4 rfl rfl ((unhide LL).get 0 rfl) (unhide H3)) ?_); simp only [Act.put, nzA, nzB, nzC]) | ((refine rd (by rfl) (ex_load1 4 Tryd.isAgg4 rfl rfl ((unhide LL).get 1 rfl) (unhide H3)) ?_); simp only [Act.put, nzA, nzB, nzC]) | ((refine rd (by rfl) (ex_loadN (vs := d.v.cs) 36 5 rwV szV rfl rfl ((unhide LL).get 0 rfl) rfl rfl) ?_); simp only [Act.put, nzA, nzB, nzC]) | ((refine rd (by rfl) (ex_loadN (vs := d.v.cs) 36 5 rwV szV rfl rfl ((unhide LL).get 1 rfl) rfl rfl) ?_); simp only [Act.put, nzA, nzB, nzC]) | ((refine rd (by rfl) (ex_loadN (vs := d.k.cs) 38 2 rwK szK rfl rfl ((unhide LL).get 0 rfl) rfl rfl) ?_); simp only [Act.put, nzA, nzB, nzC]) | ((refine rd (by rfl) (ex_loadN (vs := d.k.cs) 38 2 rwK szK rfl rfl ((unhide LL).get 1 rfl) rfl rfl) ?_); simp only [Act.put, nzA, nzB, nzC]) | ((refine rd (by rfl) (ex_loadN (vs := d.d.cs) 41 18 rwD szD rfl rfl ((unhide LL).get 0 rfl) rfl rfl) ?_); simp only [Act.put, nzA, nzB, nzC]) | ((refine rd (by rfl) (ex_loadN (vs := d.d.cs) 41 18 rwD szD rfl rfl ((unhide LL).get 1 rfl) rfl rfl) ?_); simp only [Act.put, nzA, nzB, nzC]) | ((refine rd (by rfl) (ex_neI rfl rfl rfl h1) ?_); simp only [Act.put, nzA, nzB, nzC]) | ((refine rd (by rfl) (ex_neI rfl rfl rfl h2) ?_); simp only [Act.put, nzA, nzB, nzC]) | ((refine rd (by rfl) (ex_neI rfl rfl rfl h3) ?_); simp only [Act.put, nzA, nzB, nzC]) | ((refine rd (by rfl) (ex_neB rfl rfl rfl h4) ?_); simp only [Act.put, nzA, nzB, nzC]) | ((refine rd (by rfl) (ex_neqK d.k rfl rfl rfl) ?_); simp only [Act.put, nzA, nzB, nzC])))
      refine (unhide HD _).mono ?_
      rintro e Z9 ⟨rfl, hZ9⟩
      replace LL := hide ((unhide LL).on hZ9)
      clear hZ9
      go_wp2_with (first | go_skip | ((with_reducible show wpList _ _ _ _ _ _); first | ((refine rd (by rfl) (ex_lenG 25 43 Tryd.underlying25 rfl rfl) ?_); simp only [Act.put, nzA, nzB, nzC]) | ((refine rd (by rfl) (ex_indexA 25 29 i unLs idLs rfl rfl (unhide HA1) rfl (unhide HLT)) ?_); simp only [Act.put, nzA, nzB, nzC]) | ((refine rd (by rfl) (ex_indexA 25 29 i unLs idLs rfl rfl (unhide HB1) rfl (unhide HLT)) ?_); simp only [Act.put, nzA, nzB, nzC]) | ((refine rd (by rfl) (ex_loadR (vs := d.cs) 43 29 rwL szL rfl rfl (unhide HA2 _ (unhide LL).fr) rfl) ?_); simp only [Act.put, nzA, nzB, nzC]) | ((refine rd (by rfl) (ex_loadR (vs := d.cs) 43 29 rwL szL rfl rfl (unhide HB2 _ (unhide LL).fr) rfl) ?_); simp only [Act.put, nzA, nzB, nzC]) | ((refine alG 43 zeroL.cs (by rfl) rfl (fun w => by kernel_rfl) (Nat.succ_pos _) (show Hq w _ [] [] from unhide LL) ?_); intro X6 B6 hE6 L6 hb6; have hB6 := hide (Nat.le_trans (unhide LL).fr.size (Nat.le_of_eq hE6.symm)); replace LL := hide L6; clear L6 hb6 hE6; simp only [Act.put, nzA, nzB, nzC]) | ((refine st (vs := d.cs) 0 43 (by rfl) rfl rfl rfl rfl (dlcs_one d) szL (unhide LL) rfl (by simp [DL.cs, VV.cs, KK.cs, DD.cs, zeroL]) (Or.inr (unhide hB6)) ?_); intro X8 L8 hf8 hs8; replace LL := hide L8; clear L8 hf8 hs8; simp only [Act.put, nzA, nzB, nzC]) | ((refine alG 43 zeroL.cs (by rfl) rfl (fun w => by kernel_rfl) (Nat.succ_pos _) (unhide LL) ?_); intro X7 B7 hE7 L7 hb7; have hB7 := hide (Nat.le_trans (unhide LL).fr.size (Nat.le_of_eq hE7.symm)); replace LL := hide L7; clear L7 hb7 hE7; simp only [Act.put, nzA, nzB, nzC]) | ((refine st (vs := d.cs) 1 43 (by rfl) rfl rfl rfl rfl (dlcs_one d) szL (unhide LL) rfl (by simp [DL.cs, VV.cs, KK.cs, DD.cs, zeroL]) (Or.inr (unhide hB7)) ?_); intro X9 L9 hf9 hs9; replace LL := hide L9; clear L9 hf9 hs9; simp only [Act.put, nzA, nzB, nzC]) | ((refine rd (by rfl) (ex_load1 3 Tryd.isAgg3 rfl rfl ((unhide LL).get 0 rfl) rfl) ?_); simp only [Act.put, nzA, nzB, nzC]) | ((refine rd (by rfl) (ex_load1 3 Tryd.isAgg3 rfl rfl ((unhide LL).get 1 rfl) rfl) ?_); simp only [Act.put, nzA, nzB, nzC]) | ((refine rd (by rfl) (ex_load1 4 Tryd.isAgg4 rfl rfl ((unhide LL).get 0 rfl) (unhide H3)) ?_); simp only [Act.put, nzA, nzB, nzC]) | ((refine rd (by rfl) (ex_load1 4 Tryd.isAgg4 rfl rfl ((unhide LL).get 1 rfl) (unhide H3)) ?_); simp only [Act.put, nzA, nzB, nzC]) | ((refine rd (by rfl) (ex_loadN (vs := d.v.cs) 36 5 rwV szV rfl rfl ((unhide LL).get 0 rfl) rfl rfl) ?_); simp only [Act.put, nzA, nzB, nzC]) | ((refine rd (by rfl) (ex_loadN (vs := d.v.cs) 36 5 rwV szV rfl rfl ((unhide LL).get 1 rfl) rfl rfl) ?_); simp only [Act.put, nzA, nzB, nzC]) | ((refine rd (by rfl) (ex_loadN (vs := d.k.cs) 38 2 rwK szK rfl rfl ((unhide LL).get 0 rfl) rfl rfl) ?_); simp only [Act.put, nzA, nzB, nzC]) | ((refine rd (by rfl) (ex_loadN (vs := d.k.cs) 38 2 rwK szK rfl rfl ((unhide LL).get 1 rfl) rfl rfl) ?_); simp only [Act.put, nzA, nzB, nzC]) | ((refine rd (by rfl) (ex_loadN (vs := d.d.cs) 41 18 rwD szD rfl rfl ((unhide LL).get 0 rfl) rfl rfl) ?_); simp only [Act.put, nzA, nzB, nzC]) | ((refine rd (by rfl) (ex_loadN (vs := d.d.cs) 41 18 rwD szD rfl rfl ((unhide LL).get 1 rfl) rfl rfl) ?_); simp only [Act.put, nzA, nzB, nzC]) | ((refine rd (by rfl) (ex_neI rfl rfl rfl h1) ?_); simp only [Act.put, nzA, nzB, nzC]) | ((refine rd (by rfl) (ex_neI rfl rfl rfl h2) ?_); simp only [Act.put, nzA, nzB, nzC]) | ((refine rd (by rfl) (ex_neI rfl rfl rfl h3) ?_); simp only [Act.put, nzA, nzB, nzC]) | ((refine rd (by rfl) (ex_neB rfl rfl rfl h4) ?_); simp only [Act.put, nzA, nzB, nzC]) | ((refine rd (by rfl) (ex_neqK d.k rfl rfl rfl) ?_); simp only [Act.put, nzA, nzB, nzC])))
      replace LL := hide (Hq.left (L := []) (unhide LL))
      go_roundg (l.length - (i + 1))
      case measure => have := unhide HLT; omega
      case rel => exact ⟨i + 1, by go_num, by have := unhide HLT; omega, by omega, LL⟩
    · obtain rfl : i = l.length := by omega
      clear hlt hil
      go_wp2_with (first | go_skip | ((with_reducible show wpList _ _ _ _ _ _); first | ((refine rd (by rfl) (ex_lenG 25 43 Tryd.underlying25 rfl rfl) ?_); simp only [Act.put, nzA, nzB, nzC])))
      go_ret
      exact ⟨rfl, (unhide LL).fr.below⟩
end Go.Proofs.YtcflglloopgieaaDoor

/-! Iz -/
namespace Go.Proofs.YtcflglloopgieaaDoor
open Go Go.Proofs Go.Maps Go.RowKit FM
set_option linter.unusedSimpArgs false
set_option linter.unusedVariables false
set_option maxHeartbeats 1000000
theorem own_cap {w : World} {base e sz n : Nat} {A : Option Addr} {c : Nat} {xs : List Value} (h : w.ownsRow base e sz (.slice A n c) n xs) : n ≤ c := by
  rcases h.2 with ⟨h1, h2⟩ | ⟨g, cap, cur, h1, _, _, h2, _⟩
  · rw [h2]; exact Nat.zero_le _
  · cases h1
    exact h2
def CopyPost (w : World) (l : List SH) (e : Ending) (X : World) : Prop := ∃ (A : Option Addr) (c : Nat) (cl : List CE), e = .returned (.slice A l.length c) ∧ CRow w X l (.slice A l.length c) cl ∧ cl.length = l.length ∧ ∀ e ∈ cl, e.s.ps.length ≤ e.cap
theorem copy_reads {w X : World} {l : List SH} {A : Option Addr} {c : Nat} {cl : List CE} (h : CRow w X l (.slice A l.length c) cl) (hl : cl.length = l.length) (hc : ∀ e ∈ cl, e.s.ps.length ≤ e.cap) (hx : ∀ (j : Nat) (s : SH), l[j]? = some s → SS s ∧ s.p.x < 2 ^ 64 ∧ s.ps.length ≤ 400) : ReadsU X A l := fun j s hs => by
  have hj : j < cl.length := by
    rw [hl]
    exact (List.getElem?_eq_some_iff.1 hs).1
  have he : cl[j]? = some cl[j] := List.getElem?_eq_getElem hj
  obtain ⟨h1, h2⟩ := h.all j _ he
  have e1 : cl[j].s = s := Option.some.inj (h1.symm.trans hs)
  obtain ⟨g, c2, h3, h4, h5, h6⟩ := own_row ce_length h.own rfl j hj
  obtain ⟨hA, _⟩ : A = some ⟨g, 0, none⟩ ∧ _ := by simpa using h3
  have h7 : X.rangeAt g (0 + j * 8) (s.cs cl[j].A cl[j].cap) := e1 ▸ h6
  have h8 := hc cl[j] (List.getElem_mem hj)
  obtain ⟨x1, x2, x3⟩ := hx j s hs
  exact ⟨x1, x2, x3, g, 0, cl[j].A, cl[j].cap, hA, h5, e1 ▸ h2, h7, e1 ▸ h8⟩
set_option maxHeartbeats 4000000 in
set_option maxRecDepth 100000 in
theorem copy_any (A : Option Addr) (cap : Nat) (l : List SH) (w : World) (hR : ReadsT w A l) (hn : l.length ≤ 1000) : Calls Tryd.prog 7 #[.slice A l.length cap] w (CopyPost w l) := by
  have HR := hide hR
  have HN := hide hn
  clear hR hn
  go_enter Tryd.func7, Tryd.ntmps7
  go_wp2_with (first | go_skip | ((with_reducible show wpList _ _ _ _ _ _); first | ((refine rd (by rfl) (ex_lenG 22 50 Tryd.underlying22 rfl rfl) ?_); simp only [Act.put, nzA, nzB, nzC])))
  go_loopg [3, 4] l.length (fun gm s3 s4 wr => ∃ (i : Nat) (cl : List CE), s4 = .int .i64 (i : Nat) ∧ i ≤ l.length ∧ l.length - i ≤ gm ∧ cl.length = i ∧ Hid (∀ e ∈ cl, e.s.ps.length ≤ e.cap) ∧ Hid (CRow w wr l s3 cl))
  case atStart => exact ⟨0, [], rfl, by omega, by omega, rfl, hide (by simp), hide (CRow.nil w l)⟩
  case round =>
    obtain ⟨i, cl, rfl, hil, hgm, hcl, HCC, HC⟩ := hrel
    by_cases hlt : i < l.length
    · have dlt : decide ((i : Int) < (l.length : Int)) = true := decide_eq_true (by omega)
      have hw1 : IntKind.i64.wrap ((i : Int) + 1) = (i : Int) + 1 := by have := unhide HN; rw [IntKind.wrap_i64]; omega
      obtain ⟨s, hs⟩ : ∃ s, l[i]? = some s := ⟨_, List.getElem?_eq_getElem hlt⟩
      obtain ⟨hx64, hz, b, off, SA, sc, hA, hb, hps, hrg, hc0⟩ := (unhide HR) i s hs
      have HA1 := hide hA
      have HA2 : Hid (∀ X, Fr w X [] → X.rangeAt b (off + i * 8) (s.cs SA sc)) := hide (fun X hX => rangeAt_fr hrg hb hX)
      have HPS := hide hps
      have HZ := hide hz
      have HC0 := hide hc0
      have HLT := hide hlt
      have HS : Hid (l[cl.length]? = some s) := hide (by rw [hcl]; exact hs)
      have HOKP : Hid (∀ p ∈ s.ps, OkP p) := hide (fun p hp => by
        obtain ⟨j, hj⟩ := List.getElem?_of_mem hp
        exact (hps j p hj).1)
      have HF := hide (unhide HC).fr
      have LL := hide (Hq.nil wr [])
      clear hA hb hrg hps hz hc0 hx64 hs hlt hil
      go_wp2_with (first | go_skip | ((with_reducible show wpList _ _ _ _ _ _); first | ((refine rd (by rfl) (ex_lenG 22 50 Tryd.underlying22 rfl rfl) ?_); simp only [Act.put, nzA, nzB, nzC]) | ((refine rd (by rfl) (ex_indexA 22 8 i unSs idSs rfl rfl (unhide HA1) rfl (unhide HLT)) ?_); simp only [Act.put, nzA, nzB, nzC]) | ((refine rd (by rfl) (ex_loadR (vs := s.cs SA sc) 50 8 rwS szS rfl rfl (unhide HA2 _ ((unhide HF).trans (unhide LL).fr (by simp))) rfl) ?_); simp only [Act.put, nzA, nzB, nzC]) | ((refine alG 50 (zeroS.cs none 0) (by rfl) rfl (fun w => by kernel_rfl) (Nat.succ_pos _) (unhide LL) ?_); intro X5 B5 hE5 L5 hb5; have hB5 := hide (Nat.le_trans (unhide LL).fr.size (Nat.le_of_eq hE5.symm)); replace LL := hide L5; clear L5 hb5 hE5; simp only [Act.put, nzA, nzB, nzC]) | ((refine st (vs := s.cs SA sc) 0 50 (by rfl) rfl rfl rfl rfl (shcs_one s SA sc) (szS) (unhide LL) rfl (by simp [cput, PR.cs, SH.cs, VV.cs, KK.cs, DD.cs, CO.cs, DL.cs, zeroP, zeroS, zeroD, zeroV]) (Or.inr (unhide hB5)) ?_); intro X6 L6 hf6 hs6; replace LL := hide L6; clear L6 hf6 hs6; simp only [Act.put, nzA, nzB, nzC]) | ((refine noneG 48 55 20 wr.heap.size (unhide LL).fr.size (by rfl) rfl none26 ?_); intro X7 B7 hE7 hO7 hb7; have HO : Hid (X7.ownsRow wr.heap.size 55 20 (.slice (some ⟨B7, 0, none⟩) 0 0) 0 [] ∧ B5 ≠ B7 ∧ wr.heap.size ≤ B7) := hide ⟨hO7, Nat.ne_of_lt (Nat.lt_of_lt_of_le ((unhide LL).lt _ (List.mem_singleton.2 rfl)) (Nat.le_of_eq hE7.symm)), Nat.le_trans (unhide LL).fr.size (Nat.le_of_eq hE7.symm)⟩; replace LL := hide ((unhide LL).on hb7); clear hE7 hO7 hb7; simp only [Act.put, nzA, nzB, nzC]) | ((refine rd (by rfl) (ex_load1 48 Tryd.isAgg48 rfl rfl ((unhide LL).get 0 rfl) rfl) ?_); simp only [Act.put, nzA, nzB, nzC]) | ((refine app_P (l := s.ps) (av := B5) (base := wr.heap.size) (by rfl) rfl rfl rfl (unhide HO).1 ((unhide HPS).fr ((unhide HF).trans (unhide LL).fr (by simp))) (unhide HC0) (unhide HZ) (unhide LL).fr.size (Ne.symm (unhide HO).2.1) ((unhide LL).lt _ (List.mem_singleton.2 rfl)) ?_); intro A8 c8 X8 hO8 hf8 hNB8; have LL8 := (unhide LL).step hf8 (fun b hb => .inr (by obtain rfl : b = B7 := (by simpa using hb); exact (unhide HO).2.2)) (fun q hq => by obtain rfl : q = _ := List.mem_singleton.1 hq; intro hm; exact (unhide HO).2.1 (by simpa using hm)); have HNB : Hid (∀ g, (Value.slice A8 s.ps.length c8).ownBlock = some g → g ∉ [B5]) := hide (fun g hg hm => absurd (hNB8 g hg) (by obtain rfl : g = B5 := (by simpa using hm); exact fun h => h rfl)); replace HO := hide hO8; replace LL := hide LL8; clear LL8 hO8 hf8 hNB8; simp only [Act.put, nzA, nzB, nzC]) | ((refine st (vs := [.slice A8 s.ps.length c8]) 0 48 (by rfl) rfl rfl rfl rfl (by simp [Value.oneCell']) szPs (unhide LL) rfl (by simp [cput, SH.cs, VV.cs, zeroS]) (Or.inr (unhide hB5)) ?_); intro X9 L9 hf9 hs9; have HO9 : Hid (X9.ownsRow wr.heap.size 55 20 (.slice A8 s.ps.length c8) s.ps.length (flatP s.ps) ∧ True) := hide ⟨own_blk (unhide HO) (fun g hg => hf9.block g (World.ownsRow.lt (unhide HO) g hg).2 (unhide HNB g hg)), trivial⟩; replace LL := hide L9; clear L9 hf9 hs9 HO; simp only [Act.put, nzA, nzB, nzC]) | ((refine rd (by rfl) (ex_loadN (vs := s.cs A8 c8) 50 8 rwS szS rfl rfl ((unhide LL).get 0 rfl) rfl rfl) ?_); simp only [Act.put, nzA, nzB, nzC]) | ((refine build_any (z := zeroS.agg none 0) (size := 8) (bytes := 88) (cs := s.cs A8 c8) (by rfl) rfl rfl Tryd.underlying22 inf28 (by omega) rfl rfl (by omega) (unhide LL) ?_); intro X10 B10 hE10 L10 hb10; replace HO9 := hide (And.intro (own_fr (unhide HO9).1 (Fr.of_below hb10 [])) trivial); replace LL := hide L10; clear L10 hb10 hE10; simp only [Act.put, nzA, nzB, nzC]) | ((with_reducible refine append_any (z := zeroS.agg none 0) (size := 8) (bytes := 88) (n := cl.length) (m := 1) (base := w.heap.size) (news := s.cs A8 c8) (by rfl) rfl rfl rfl Tryd.underlying22 inf28 rfl (by omega) (own_fr (unhide HC).own (unhide LL).fr) ((unhide LL).get 1 rfl) rfl (shcs_one s A8 c8) (by have := unhide HN; have := unhide HLT; omega) (by omega) (Nat.le_trans (unhide HF).size (unhide LL).fr.size) ?_); intro A11 c11 X11 hO11 hg11 hF11; have HCP := hide (own_cap (unhide HO9).1); have HNEW : Hid (CRow w X11 l (.slice A11 (cl.length + 1) c11) (cl ++ [⟨s, A8, c8⟩])) := hide (CRow.snoc ((unhide HC).on (unhide LL).fr) hO11 hg11 hF11 (unhide HS) (own_readsP (unhide HOKP) (unhide HO9).1) (fun b o hb => by subst hb; have h1 := World.ownsRow.lt (unhide HO9).1 b rfl; refine ⟨h1.2, fun h2 => ?_⟩; have h3 := World.ownsRow.lt (unhide HC).own b h2; omega)); clear hO11 hg11 hF11 HO9 LL; simp only [Act.put, nzA, nzB, nzC])))
      go_roundg (l.length - (i + 1))
      case measure => have := unhide HLT; omega
      case rel => exact ⟨i + 1, cl ++ [⟨s, A8, c8⟩], by go_num, by have := unhide HLT; omega, by omega, by rw [List.length_append, hcl]; rfl, hide (fun e he => by rcases List.mem_append.1 he with h | h; exact (unhide HCC) e h; obtain rfl : e = ⟨s, A8, c8⟩ := (by simpa using h); exact unhide HCP), HNEW⟩
    · obtain rfl : i = l.length := by omega
      obtain ⟨Ac, cc, hf⟩ := own_form (unhide HC).own
      rw [hcl] at hf
      subst hf
      clear hlt hil
      go_wp2_with (first | go_skip | ((with_reducible show wpList _ _ _ _ _ _); first | ((refine rd (by rfl) (ex_lenG 22 50 Tryd.underlying22 rfl rfl) ?_); simp only [Act.put, nzA, nzB, nzC])))
      go_ret
      exact ⟨Ac, cc, cl, rfl, unhide HC, hcl, unhide HCC⟩
end Go.Proofs.YtcflglloopgieaaDoor

/-! Ja -/
namespace Go.Proofs.YtcflglloopgieaaDoor
open Go Go.Proofs Go.Maps Go.RowKit FM
set_option linter.unusedSimpArgs false
set_option linter.unusedVariables false
set_option maxHeartbeats 1000000
/-- Where a's property j stands in b. -/
def Pj (b a : List PR) (j : Nat) : Option Nat := (a[j]?).bind (fun q => fO b q.k)
/-- So many at a's front stand in b, in that order. -/
structure KN (b a : List PR) (n : Nat) (at_ : Int) : Prop where
  le : n ≤ a.length
  low : -1 ≤ at_
  all : ∀ j, j < n → ∃ m : Nat, Pj b a j = some m ∧ (m : Int) ≤ at_
  inc : ∀ i j m m', i < j → j < n → Pj b a i = some m → Pj b a j = some m' → m < m'
  zero : n = 0 → at_ = -1
  last : ∀ m : Nat, 0 < n → Pj b a (n - 1) = some m → at_ = (m : Int)
theorem KN.start (b a : List PR) : KN b a 0 (-1) := ⟨Nat.zero_le _, by omega, fun j hj => absurd hj (Nat.not_lt_zero _), fun i j m m' _ hj => absurd hj (Nat.not_lt_zero _), fun _ => rfl, fun m h => absurd h (Nat.lt_irrefl _)⟩
theorem KN.step {b a : List PR} {n : Nat} {at_ : Int} {q : PR} (h : KN b a n at_) (hq : a[n]? = some q) (hg : at_ < fI b q.k) : KN b a (n + 1) (fI b q.k) := by
  rw [fI_fO] at hg ⊢
  cases hf : fO b q.k with
  | none =>
    rw [hf] at hg
    have := h.low
    simp [oI] at hg
    omega
  | some m =>
    rw [hf] at hg
    have hg2 : at_ < (m : Int) := hg
    have hP : Pj b a n = some m := by simp [Pj, hq, hf]
    have hlt := (List.getElem?_eq_some_iff.1 hq).1
    show KN b a (n + 1) (m : Int)
    refine ⟨hlt, by omega, fun j hj => ?_, fun i j m1 m2 hij hj h1 h2 => ?_, fun h0 => by omega, fun m' _ hm => ?_⟩
    · rcases Nat.lt_succ_iff_lt_or_eq.1 hj with h1 | h1
      · obtain ⟨m1, e1, e2⟩ := h.all j h1
        exact ⟨m1, e1, by omega⟩
      · subst h1
        exact ⟨m, hP, Int.le_refl _⟩
    · rcases Nat.lt_succ_iff_lt_or_eq.1 hj with h3 | h3
      · exact h.inc i j m1 m2 hij h3 h1 h2
      · subst h3
        obtain ⟨m3, e1, e2⟩ := h.all i hij
        rw [h1] at e1
        obtain rfl := Option.some.inj e1
        rw [hP] at h2
        obtain rfl := Option.some.inj h2
        omega
    · rw [Nat.add_sub_cancel, hP] at hm
      obtain rfl := Option.some.inj hm
      rfl
/-- No more stand so. -/
def KStop (b a : List PR) (n : Nat) (at_ : Int) : Prop := ∀ q, a[n]? = some q → ¬ at_ < fI b q.k
def KeyD (l : List PR) : Prop := ∀ (k : Nat) (p : PR), l[k]? = some p → fO l p.k = some k
theorem KN.pos {b a : List PR} {n : Nat} {at_ : Int} (h : KN b a n at_) {j m : Nat} (hj : j < n) (hP : Pj b a j = some m) : ∃ q p, a[j]? = some q ∧ b[m]? = some p ∧ p.k = q.k := by
  unfold Pj at hP
  cases hq : a[j]? with
  | none => simp [hq] at hP
  | some q =>
    simp only [hq, Option.bind_some] at hP
    obtain ⟨p, hp, hk⟩ := fO_get hP
    exact ⟨q, p, rfl, hp, hk⟩
/-- What the program keeps is just that. -/
theorem stay_kn {b a : List PR} {n : Nat} {at_ : Int} (hb : KeyD b) (h : KN b a n at_) (hs : KStop b a n at_) : ∀ i, i ≤ b.length →
    (stayT a b i).length ≤ n ∧ (∀ j m, j < n → Pj b a j = some m → (j < (stayT a b i).length ↔ m < i)) ∧ (∀ j m, j < (stayT a b i).length → Pj b a j = some m → (stayT a b i)[j]? = b[m]?)
  | 0, _ => by
    refine ⟨by simp [stayT], fun j m _ _ => by simp [stayT], fun j m hj => by simp [stayT] at hj⟩
  | i + 1, hi => by
    obtain ⟨h1, h2, h3⟩ := stay_kn hb h hs i (by omega)
    obtain ⟨p, hp⟩ : ∃ p, b[i]? = some p := ⟨_, List.getElem?_eq_getElem (by omega)⟩
    cases hh : hit a (stayT a b i) p with
    | true =>
      have hq0 : ∃ q, a[(stayT a b i).length]? = some q ∧ q.k = p.k := by
        unfold hit at hh
        cases hq : a[(stayT a b i).length]? with
        | none => simp [hq] at hh
        | some q => exact ⟨q, rfl, by simpa [hq] using hh⟩
      obtain ⟨q, hq, hqk⟩ := hq0
      have hfi : fO b q.k = some i := by rw [hqk]; exact hb i p hp
      have hPn : Pj b a (stayT a b i).length = some i := by simp [Pj, hq, hfi]
      have hlt : (stayT a b i).length < n := by
        rcases Nat.lt_or_ge (stayT a b i).length n with h4 | h4
        · exact h4
        · exfalso
          have e : (stayT a b i).length = n := by omega
          rw [e] at hq
          have hst := hs q hq
          rw [fI_fO, hfi] at hst
          apply hst
          show at_ < (i : Int)
          rcases Nat.eq_zero_or_pos n with h0 | h0
          · rw [h.zero h0]
            omega
          · obtain ⟨m, e1, _⟩ := h.all (n - 1) (by omega)
            have := h.last m h0 e1
            have hm := (h2 (n - 1) m (by omega) e1).1 (by omega)
            omega
      rw [(stayT_yes (o := 0) hp hh).1]
      refine ⟨by simp; omega, fun j m hj hP => ?_, fun j m hj hP => ?_⟩
      · rw [List.length_append, List.length_singleton]
        rcases Nat.lt_trichotomy j (stayT a b i).length with h4 | h4 | h4
        · have := (h2 j m hj hP).1 h4
          omega
        · subst h4
          rw [hPn] at hP
          obtain rfl := Option.some.inj hP
          omega
        · have := h.inc _ j i m h4 hj hPn hP
          omega
      · rw [List.length_append, List.length_singleton] at hj
        rcases Nat.lt_succ_iff_lt_or_eq.1 hj with h4 | h4
        · rw [List.getElem?_append_left h4]
          exact h3 j m h4 hP
        · subst h4
          rw [hPn] at hP
          obtain rfl := Option.some.inj hP
          rw [List.getElem?_append_right (Nat.le_refl _)]
          simp [hp]
    | false =>
      rw [(stayT_no (o := 0) hp hh).1]
      refine ⟨h1, fun j m hj hP => ?_, h3⟩
      rw [h2 j m hj hP]
      constructor
      · intro h4; omega
      · intro h4
        rcases Nat.lt_succ_iff_lt_or_eq.1 h4 with h5 | h5
        · exact h5
        · exfalso
          subst h5
          have hnl : ¬ j < (stayT a b m).length := fun h6 => absurd ((h2 j m hj hP).1 h6) (Nat.lt_irrefl _)
          have heq : j = (stayT a b m).length := by
            rcases Nat.lt_or_ge (stayT a b m).length j with h6 | h6
            · exfalso
              obtain ⟨m2, e1, _⟩ := h.all (stayT a b m).length (by omega)
              have h7 := h.inc _ j m2 m h6 hj e1 hP
              have := (h2 _ m2 (by omega) e1).2 h7
              omega
            · omega
          obtain ⟨q, p2, hq, hp2, hk⟩ := h.pos hj hP
          rw [hp] at hp2
          obtain rfl := Option.some.inj hp2
          rw [heq] at hq
          simp [hit, hq, hk] at hh
theorem stay_len {b a : List PR} {n : Nat} {at_ : Int} (hb : KeyD b) (h : KN b a n at_) (hs : KStop b a n at_) : (stayT a b b.length).length = n := by
  obtain ⟨h1, h2, _⟩ := stay_kn hb h hs b.length (Nat.le_refl _)
  rcases Nat.eq_zero_or_pos n with h0 | h0
  · omega
  · obtain ⟨m, e1, _⟩ := h.all (n - 1) (by omega)
    obtain ⟨q, p, _, hp, _⟩ := h.pos (by omega) e1
    have := (h2 (n - 1) m (by omega) e1).2 (List.getElem?_eq_some_iff.1 hp).1
    omega
/-- What the document takes out, and puts. -/
def goR (o : Int) (b a : List PR) (n : Nat) : Nat → List DL
  | 0 => []
  | i + 1 => match b[i]? with
    | none => goR o b a n i
    | some p => if (fO (a.take n) p.k).isSome then goR o b a n i else goR o b a n i ++ [goneL o p.k]
def eqAt (b : List PR) (q : PR) : Bool := match fO b q.k with
  | none => false
  | some m => match b[m]? with
    | none => false
    | some p => eqD q.d p.d
def puR (o : Int) (b a : List PR) (n : Nat) : Nat → List DL
  | 0 => []
  | i + 1 => match a[i]? with
    | none => puR o b a n i
    | some q => if decide (n ≤ i) || !eqAt b q then puR o b a n i ++ [putL o q] else puR o b a n i
def propsR (o : Int) (b a : List PR) (n : Nat) : List DL := goR o b a n b.length ++ puR o b a n a.length
theorem eqB_comm (a b : VV) : eqB a b = eqB b a := by
  unfold eqB
  rw [Bool.and_comm (isN a.x)]
  have e1 : decide (a.x = b.x) = decide (b.x = a.x) := by simp [eq_comm]
  have e2 : decide (a.s.toList = b.s.toList) = decide (b.s.toList = a.s.toList) := by simp [eq_comm]
  have e3 : (a.k == b.k) = (b.k == a.k) := by rw [Bool.beq_comm]
  have e4 : (a.b == b.b) = (b.b == a.b) := by rw [Bool.beq_comm]
  have e5 : (a.i == b.i) = (b.i == a.i) := by rw [Bool.beq_comm]
  rw [e1, e2, e3, e4, e5]
theorem eqD_comm (a b : DD) : eqD a b = eqD b a := by
  unfold eqD
  rw [eqB_comm a.v, eqB_comm a.g, eqB_comm a.s]
  have e3 : (a.w == b.w) = (b.w == a.w) := by rw [Bool.beq_comm]
  have e4 : (a.e == b.e) = (b.e == a.e) := by rw [Bool.beq_comm]
  have e5 : (a.c == b.c) = (b.c == a.c) := by rw [Bool.beq_comm]
  rw [e3, e4, e5]
theorem take_some {b a : List PR} {n i : Nat} {at_ : Int} {p : PR} (hb : KeyD b) (h : KN b a n at_) (hp : b[i]? = some p) : (fO (a.take n) p.k).isSome = true ↔ ∃ j, j < n ∧ Pj b a j = some i := by
  constructor
  · intro hs
    obtain ⟨j, hj⟩ := Option.isSome_iff_exists.1 hs
    obtain ⟨q, hq, hk⟩ := fO_get hj
    rw [List.getElem?_take] at hq
    split at hq
    · rename_i hjn
      exact ⟨j, hjn, by simp [Pj, hq, hk, hb i p hp]⟩
    · cases hq
  · rintro ⟨j, hj, hP⟩
    obtain ⟨q, p2, hq, hp2, hk⟩ := h.pos hj hP
    rw [hp] at hp2
    obtain rfl := Option.some.inj hp2
    have hq2 : (a.take n)[j]? = some q := by rw [List.getElem?_take, if_pos hj]; exact hq
    obtain ⟨j2, hj2, _⟩ := fO_mem hq2
    rw [hk, hj2]
    rfl
theorem go_same (o : Int) {b a : List PR} {n : Nat} {at_ : Int} (hb : KeyD b) (h : KN b a n at_) (hs : KStop b a n at_) : ∀ i, i ≤ b.length → goR o b a n i = goT o a b i
  | 0, _ => rfl
  | i + 1, hi => by
    have ih := go_same o hb h hs i (by omega)
    obtain ⟨p, hp⟩ : ∃ p, b[i]? = some p := ⟨_, List.getElem?_eq_getElem (by omega)⟩
    obtain ⟨h1, h2, h3⟩ := stay_kn hb h hs i (by omega)
    obtain ⟨g1, g2, g3⟩ := stay_kn hb h hs (i + 1) hi
    have key : (fO (a.take n) p.k).isSome = hit a (stayT a b i) p := by
      cases hh : hit a (stayT a b i) p with
      | true =>
        rw [take_some hb h hp]
        refine ⟨(stayT a b i).length, ?_, ?_⟩
        · rw [(stayT_yes (o := o) hp hh).1] at g1
          simp at g1
          omega
        · unfold hit at hh
          cases hq : a[(stayT a b i).length]? with
          | none => simp [hq] at hh
          | some q =>
            have hk : q.k = p.k := by simpa [hq] using hh
            simp [Pj, hq, hk, hb i p hp]
      | false =>
        cases hx : (fO (a.take n) p.k).isSome with
        | false => rfl
        | true =>
          exfalso
          obtain ⟨j, hj, hP⟩ := (take_some hb h hp).1 hx
          rw [(stayT_no (o := o) hp hh).1] at g2
          have e1 := (h2 j i hj hP)
          have e2 := (g2 j i hj hP)
          omega
    unfold goR
    rw [hp]
    simp only [key, ih]
    cases hh : hit a (stayT a b i) p with
    | true => rw [(stayT_yes (o := o) hp hh).2]; simp
    | false => rw [(stayT_no (o := o) hp hh).2]; simp
theorem pu_low (o : Int) {b a : List PR} {n : Nat} {at_ : Int} (hb : KeyD b) (h : KN b a n at_) (hs : KStop b a n at_) : ∀ i, i ≤ n → puR o b a n i = chT o a (stayT a b b.length) i
  | 0, _ => rfl
  | i + 1, hi => by
    have ih := pu_low o hb h hs i (by omega)
    obtain ⟨m, e1, _⟩ := h.all i (by omega)
    obtain ⟨q, p, hq, hp, hk⟩ := h.pos (by omega) e1
    obtain ⟨_, _, h3⟩ := stay_kn hb h hs b.length (Nat.le_refl _)
    have hsl := stay_len hb h hs
    have hsi : (stayT a b b.length)[i]? = some p := by rw [h3 i m (by omega) e1]; exact hp
    have hf : fO b q.k = some m := by simpa [Pj, hq] using e1
    have he : eqAt b q = eqD p.d q.d := by unfold eqAt; rw [hf]; simp only [hp]; exact eqD_comm _ _
    unfold puR
    rw [hq]
    have hd : decide (n ≤ i) = false := decide_eq_false (by omega)
    simp only [hd, Bool.false_or, he, ih]
    cases hx : eqD p.d q.d with
    | true => rw [chT_yes hsi hq hx]; simp
    | false => rw [chT_no hsi hq hx]; simp
theorem pu_high (o : Int) {b a : List PR} {n : Nat} (hn : n ≤ a.length) : ∀ k, n + k ≤ a.length → puR o b a n (n + k) = puR o b a n n ++ ((a.drop n).take k).map (putL o)
  | 0, _ => by simp
  | k + 1, hk => by
    have ih := pu_high o (b := b) hn k (by omega)
    obtain ⟨q, hq⟩ : ∃ q, a[n + k]? = some q := ⟨_, List.getElem?_eq_getElem (by omega)⟩
    have hq2 : (a.drop n)[k]? = some q := by rw [List.getElem?_drop]; exact hq
    rw [take_map o hq2, ← List.append_assoc, ← ih, show n + (k + 1) = n + k + 1 by omega]
    conv => lhs; unfold puR
    rw [hq]
    have hd : decide (n ≤ n + k) = true := decide_eq_true (by omega)
    simp [hd]
theorem props_same (o : Int) {b a : List PR} {n : Nat} {at_ : Int} (hb : KeyD b) (h : KN b a n at_) (hs : KStop b a n at_) : propsR o b a n = propsL o b a := by
  have hl := stay_len hb h hs
  unfold propsR propsL
  rw [go_same o hb h hs b.length (Nat.le_refl _), hl]
  congr 1
  have e := pu_high o (b := b) h.le (a.length - n) (by have := h.le; omega)
  rw [show n + (a.length - n) = a.length by have := h.le; omega] at e
  rw [e, pu_low o hb h hs n (Nat.le_refl _), List.take_of_length_le (by simp)]
end Go.Proofs.YtcflglloopgieaaDoor
