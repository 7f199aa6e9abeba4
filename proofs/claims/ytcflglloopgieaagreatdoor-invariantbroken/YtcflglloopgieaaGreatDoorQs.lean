import Derived.Test.YtcflglloopgieaaGreatDoorQq
import Derived.Test.YtcflglloopgieaaGreatDoorQl

/-! Kc -/
namespace Go.Proofs.YtcflglloopgieaaGreatDoor
open Go Go.Proofs Go.Maps Go.RowKit FM
set_option linter.unusedSimpArgs false
set_option linter.unusedVariables false
set_option maxHeartbeats 1000000
/-- The course of an object that stands at both moments. -/
def rulC (b a : SH) : CO := ⟨b, none, 0, a, none, 0, false⟩
def RuleP (b a : SH) (r : Int) : Prop := (r = 0 ∧ NoR (rulC b a) 6) ∨ ∃ j : Nat, 0 < j ∧ j < 6 ∧ r = (j : Int) + 1 ∧ rbV (rulC b a) j = true ∧ NoR (rulC b a) j
def RulePost (w : World) (b a : SH) (e : Ending) (X : World) : Prop := ∃ r : Int, e = .returned (.int .i64 r) ∧ RuleP b a r ∧ Below w.heap.size w X
def nk (l : List PR) (p : PR) : Bool := !(fO l p.k).isSome
theorem fi_neg (l : List PR) (p : PR) : decide (fI l p.k < 0) = nk l p := by
  unfold nk
  rw [fI_fO]
  cases fO l p.k with
  | none => simp [oI]
  | some m =>
    show decide ((m : Int) < 0) = false
    exact decide_eq_false (by omega)
theorem fi_ne {l : List PR} {i : Nat} {p : PR} (hp : l[i]? = some p) : (fI l p.k != (i : Int)) = !decide (fO l p.k = some i) := by
  obtain ⟨j, hj, hji⟩ := fO_mem hp
  rw [fI_fO, hj]
  by_cases e : j = i
  · subst e
    simp [oI]
  · have e2 : ¬ ((j : Int) = (i : Int)) := by omega
    simp [oI, e, e2]
theorem keepE0 {a b : DD} (h : keepB a b = true) : keepE a b = 0 := by
  unfold keepB at h
  unfold keepE
  cases hs : (!stV a || !stV b)
  · simp
  · rw [hs] at h
    simp at h
theorem ex_ltI2 {o : Oper} {a : Act} {w : World} {x y : Operand} {n m : Int} {r : Bool} (ho : o.op = .binOp .lss 3 x y 3) (hx : a.eval x = .int .i64 n) (hc : a.eval y = .int .i64 m) (h : decide (n < m) = r) : (execOp a.eval o).run Tryz.prog w = .ok (.value (.bool r)) w := by
  unfold execOp
  simp only [ho, hx, hc]
  simp [go_sem, eqGuard, h]
theorem no1 (b a : SH) : NoR (rulC b a) 1 := (NoR.zero _).step rfl
theorem no2 {b a : SH} (h : (b.c != a.c) = false) : NoR (rulC b a) 2 := (no1 b a).step (by show (a.c != b.c) = false; rw [bne_comm]; exact h)
theorem no3 {b a : SH} (h : NoR (rulC b a) 2) (hx : (!b.x && a.x) = false) : NoR (rulC b a) 3 := h.step hx
theorem no4 {b a : SH} (h : NoR (rulC b a) 3) (hx : (!b.x && !eqB b.p a.p) = false) : NoR (rulC b a) 4 := h.step hx
theorem no5 {b a : SH} (h : NoR (rulC b a) 4) (hx : (!b.x && a.ps.any (nk b.ps)) = false) : NoR (rulC b a) 5 := h.step hx
theorem no6 {b a : SH} (h : NoR (rulC b a) 5) (hx : ∀ j, j < b.ps.length → badAt b.ps a.ps j = false) : NoR (rulC b a) 6 := h.step (prV_no hx)
theorem r1 {b a : SH} (h : (b.c != a.c) = true) : RuleP b a 2 := .inr ⟨1, by omega, by omega, rfl, by show (a.c != b.c) = true; rw [bne_comm]; exact h, no1 b a⟩
theorem r2 {b a : SH} (h : NoR (rulC b a) 2) (hx : (!b.x && a.x) = true) : RuleP b a 3 := .inr ⟨2, by omega, by omega, rfl, hx, h⟩
theorem r3 {b a : SH} (h : NoR (rulC b a) 3) (hx : (!b.x && !eqB b.p a.p) = true) : RuleP b a 4 := .inr ⟨3, by omega, by omega, rfl, hx, h⟩
theorem r4 {b a : SH} (h : NoR (rulC b a) 4) (hx : (!b.x && a.ps.any (nk b.ps)) = true) : RuleP b a 5 := .inr ⟨4, by omega, by omega, rfl, hx, h⟩
theorem r5 {b a : SH} {i : Nat} (h : NoR (rulC b a) 5) (hi : i < b.ps.length) (hx : badAt b.ps a.ps i = true) : RuleP b a 6 := .inr ⟨5, by omega, by omega, rfl, prV_yes (c := rulC b a) hi hx, h⟩
theorem upB {b a : List PR} {i : Nat} (h : ∀ j, j < i → badAt b a j = false) (hi : badAt b a i = false) : ∀ j, j < i + 1 → badAt b a j = false := fun j hj => by
  rcases Nat.lt_succ_iff_lt_or_eq.1 hj with h1 | rfl
  · exact h j h1
  · exact hi
set_option maxHeartbeats 4000000 in
set_option maxRecDepth 100000 in
theorem ref_rule (b a : SH) (SB SA : Option Addr) (sb sa : Nat) (w : World) (hB : ReadsP w SB b.ps) (hA : ReadsP w SA a.ps) (hzb : b.ps.length ≤ 733007751850) (hza : a.ps.length ≤ 733007751850) (hb64 : b.p.x < 2 ^ 64) (ha64 : a.p.x < 2 ^ 64) : Calls Tryz.prog 21 #[b.agg SB sb, a.agg SA sa] w (RulePost w b a) := by
  have LL := hide (Hq.nil w [])
  have HB := hide hB
  have HA := hide hA
  have HZb := hide hzb
  have HZa := hide hza
  have HE := hide (refEq_any b.p a.p hb64 ha64)
  simp only [vagg] at HE
  unfold SH.agg
  clear hA hB hza hzb ha64 hb64
  have H6 : Hid ((b.cs SB sb)[6]? = some (.bool b.x)) := hide rfl
  have H6b : Hid ((a.cs SA sa)[6]? = some (.bool a.x)) := hide rfl
  go_enter Tryz.func21, Tryz.ntmps21
  cases hc : (b.c != a.c)
  · have HN2 := hide (no2 hc)
    skip
    cases hbx : b.x
    · have HBX := hide hbx
      rw [hbx] at H6
      clear hbx
      cases hax : a.x
      · have HN3 := hide (no3 (unhide HN2) (by rw [hax]; simp))
        rw [hax] at H6b
        clear hax
        go_wp2_with (first | go_skip | ((with_reducible show wpList _ _ _ _ _ _); first | ((refine rd (by rfl) (ex_neI rfl rfl rfl hc) ?_); simp only [Act.put, List.setIfInBounds_toArray, List.set_cons_succ, List.set_cons_zero]) | ((refine bx 34 (b.cs SB sb) (by rfl) rfl rfl rfl (Nat.succ_pos _) (show Hq w _ [] [] from unhide LL) ?_); intro X1 B1 hE1 L1 hb1; replace LL := hide L1; clear L1 hb1 hE1; simp only [Act.put, List.setIfInBounds_toArray, List.set_cons_succ, List.set_cons_zero]) | ((refine bx 34 (a.cs SA sa) (by rfl) rfl rfl rfl (Nat.succ_pos _) (unhide LL) ?_); intro X2 B2 hE2 L2 hb2; replace LL := hide L2; clear L2 hb2 hE2; simp only [Act.put, List.setIfInBounds_toArray, List.set_cons_succ, List.set_cons_zero]) | ((refine rd (by rfl) (ex_load1 3 Tryz.isAgg3 rfl rfl ((unhide LL).get 0 rfl) rfl) ?_); simp only [Act.put, List.setIfInBounds_toArray, List.set_cons_succ, List.set_cons_zero]) | ((refine rd (by rfl) (ex_load1 3 Tryz.isAgg3 rfl rfl ((unhide LL).get 1 rfl) rfl) ?_); simp only [Act.put, List.setIfInBounds_toArray, List.set_cons_succ, List.set_cons_zero]) | ((refine rd (by rfl) (ex_load1 4 Tryz.isAgg4 rfl rfl ((unhide LL).get 0 rfl) (unhide H6)) ?_); simp only [Act.put, List.setIfInBounds_toArray, List.set_cons_succ, List.set_cons_zero]) | ((refine rd (by rfl) (ex_load1 4 Tryz.isAgg4 rfl rfl ((unhide LL).get 1 rfl) (unhide H6b)) ?_); simp only [Act.put, List.setIfInBounds_toArray, List.set_cons_succ, List.set_cons_zero]) | ((refine rd (by rfl) (ex_loadN (vs := b.p.cs) 31 5 rwV szV rfl rfl ((unhide LL).get 0 rfl) rfl rfl) ?_); simp only [Act.put, List.setIfInBounds_toArray, List.set_cons_succ, List.set_cons_zero]) | ((refine rd (by rfl) (ex_loadN (vs := a.p.cs) 31 5 rwV szV rfl rfl ((unhide LL).get 1 rfl) rfl rfl) ?_); simp only [Act.put, List.setIfInBounds_toArray, List.set_cons_succ, List.set_cons_zero]) | ((refine rd (by rfl) (ex_load1 32 Tryz.isAgg32 rfl rfl ((unhide LL).get 0 rfl) rfl) ?_); simp only [Act.put, List.setIfInBounds_toArray, List.set_cons_succ, List.set_cons_zero]) | ((refine rd (by rfl) (ex_load1 32 Tryz.isAgg32 rfl rfl ((unhide LL).get 1 rfl) rfl) ?_); simp only [Act.put, List.setIfInBounds_toArray, List.set_cons_succ, List.set_cons_zero]) | ((refine rd (by rfl) (ex_lenG 32 61 Tryz.underlying32 rfl rfl) ?_); simp only [Act.put, List.setIfInBounds_toArray, List.set_cons_succ, List.set_cons_zero])))
        refine (unhide HE _).mono ?_
        rintro e X8 ⟨rfl, hb8⟩
        replace LL := hide ((unhide LL).on hb8)
        clear hb8
        cases hpe : eqB b.p a.p
        · have HR := hide (r3 (unhide HN3) (by rw [unhide HBX, hpe]; rfl))
          clear hpe
          go_wp2_with (first | go_skip | ((with_reducible show wpList _ _ _ _ _ _); first | ((refine rd (by rfl) (ex_neI rfl rfl rfl hc) ?_); simp only [Act.put, List.setIfInBounds_toArray, List.set_cons_succ, List.set_cons_zero]) | ((refine bx 34 (b.cs SB sb) (by rfl) rfl rfl rfl (Nat.succ_pos _) (show Hq w _ [] [] from unhide LL) ?_); intro X1 B1 hE1 L1 hb1; replace LL := hide L1; clear L1 hb1 hE1; simp only [Act.put, List.setIfInBounds_toArray, List.set_cons_succ, List.set_cons_zero]) | ((refine bx 34 (a.cs SA sa) (by rfl) rfl rfl rfl (Nat.succ_pos _) (unhide LL) ?_); intro X2 B2 hE2 L2 hb2; replace LL := hide L2; clear L2 hb2 hE2; simp only [Act.put, List.setIfInBounds_toArray, List.set_cons_succ, List.set_cons_zero]) | ((refine rd (by rfl) (ex_load1 3 Tryz.isAgg3 rfl rfl ((unhide LL).get 0 rfl) rfl) ?_); simp only [Act.put, List.setIfInBounds_toArray, List.set_cons_succ, List.set_cons_zero]) | ((refine rd (by rfl) (ex_load1 3 Tryz.isAgg3 rfl rfl ((unhide LL).get 1 rfl) rfl) ?_); simp only [Act.put, List.setIfInBounds_toArray, List.set_cons_succ, List.set_cons_zero]) | ((refine rd (by rfl) (ex_load1 4 Tryz.isAgg4 rfl rfl ((unhide LL).get 0 rfl) (unhide H6)) ?_); simp only [Act.put, List.setIfInBounds_toArray, List.set_cons_succ, List.set_cons_zero]) | ((refine rd (by rfl) (ex_load1 4 Tryz.isAgg4 rfl rfl ((unhide LL).get 1 rfl) (unhide H6b)) ?_); simp only [Act.put, List.setIfInBounds_toArray, List.set_cons_succ, List.set_cons_zero]) | ((refine rd (by rfl) (ex_loadN (vs := b.p.cs) 31 5 rwV szV rfl rfl ((unhide LL).get 0 rfl) rfl rfl) ?_); simp only [Act.put, List.setIfInBounds_toArray, List.set_cons_succ, List.set_cons_zero]) | ((refine rd (by rfl) (ex_loadN (vs := a.p.cs) 31 5 rwV szV rfl rfl ((unhide LL).get 1 rfl) rfl rfl) ?_); simp only [Act.put, List.setIfInBounds_toArray, List.set_cons_succ, List.set_cons_zero]) | ((refine rd (by rfl) (ex_load1 32 Tryz.isAgg32 rfl rfl ((unhide LL).get 0 rfl) rfl) ?_); simp only [Act.put, List.setIfInBounds_toArray, List.set_cons_succ, List.set_cons_zero]) | ((refine rd (by rfl) (ex_load1 32 Tryz.isAgg32 rfl rfl ((unhide LL).get 1 rfl) rfl) ?_); simp only [Act.put, List.setIfInBounds_toArray, List.set_cons_succ, List.set_cons_zero]) | ((refine rd (by rfl) (ex_lenG 32 61 Tryz.underlying32 rfl rfl) ?_); simp only [Act.put, List.setIfInBounds_toArray, List.set_cons_succ, List.set_cons_zero])))
          go_ret
          exact ⟨_, rfl, unhide HR, (unhide LL).fr.below⟩
        · have HN4 := hide (no4 (unhide HN3) (by rw [hpe]; simp))
          clear hpe
          go_wp2_with (first | go_skip | ((with_reducible show wpList _ _ _ _ _ _); first | ((refine rd (by rfl) (ex_neI rfl rfl rfl hc) ?_); simp only [Act.put, List.setIfInBounds_toArray, List.set_cons_succ, List.set_cons_zero]) | ((refine bx 34 (b.cs SB sb) (by rfl) rfl rfl rfl (Nat.succ_pos _) (show Hq w _ [] [] from unhide LL) ?_); intro X1 B1 hE1 L1 hb1; replace LL := hide L1; clear L1 hb1 hE1; simp only [Act.put, List.setIfInBounds_toArray, List.set_cons_succ, List.set_cons_zero]) | ((refine bx 34 (a.cs SA sa) (by rfl) rfl rfl rfl (Nat.succ_pos _) (unhide LL) ?_); intro X2 B2 hE2 L2 hb2; replace LL := hide L2; clear L2 hb2 hE2; simp only [Act.put, List.setIfInBounds_toArray, List.set_cons_succ, List.set_cons_zero]) | ((refine rd (by rfl) (ex_load1 3 Tryz.isAgg3 rfl rfl ((unhide LL).get 0 rfl) rfl) ?_); simp only [Act.put, List.setIfInBounds_toArray, List.set_cons_succ, List.set_cons_zero]) | ((refine rd (by rfl) (ex_load1 3 Tryz.isAgg3 rfl rfl ((unhide LL).get 1 rfl) rfl) ?_); simp only [Act.put, List.setIfInBounds_toArray, List.set_cons_succ, List.set_cons_zero]) | ((refine rd (by rfl) (ex_load1 4 Tryz.isAgg4 rfl rfl ((unhide LL).get 0 rfl) (unhide H6)) ?_); simp only [Act.put, List.setIfInBounds_toArray, List.set_cons_succ, List.set_cons_zero]) | ((refine rd (by rfl) (ex_load1 4 Tryz.isAgg4 rfl rfl ((unhide LL).get 1 rfl) (unhide H6b)) ?_); simp only [Act.put, List.setIfInBounds_toArray, List.set_cons_succ, List.set_cons_zero]) | ((refine rd (by rfl) (ex_loadN (vs := b.p.cs) 31 5 rwV szV rfl rfl ((unhide LL).get 0 rfl) rfl rfl) ?_); simp only [Act.put, List.setIfInBounds_toArray, List.set_cons_succ, List.set_cons_zero]) | ((refine rd (by rfl) (ex_loadN (vs := a.p.cs) 31 5 rwV szV rfl rfl ((unhide LL).get 1 rfl) rfl rfl) ?_); simp only [Act.put, List.setIfInBounds_toArray, List.set_cons_succ, List.set_cons_zero]) | ((refine rd (by rfl) (ex_load1 32 Tryz.isAgg32 rfl rfl ((unhide LL).get 0 rfl) rfl) ?_); simp only [Act.put, List.setIfInBounds_toArray, List.set_cons_succ, List.set_cons_zero]) | ((refine rd (by rfl) (ex_load1 32 Tryz.isAgg32 rfl rfl ((unhide LL).get 1 rfl) rfl) ?_); simp only [Act.put, List.setIfInBounds_toArray, List.set_cons_succ, List.set_cons_zero]) | ((refine rd (by rfl) (ex_lenG 32 61 Tryz.underlying32 rfl rfl) ?_); simp only [Act.put, List.setIfInBounds_toArray, List.set_cons_succ, List.set_cons_zero])))
          go_loopg [5] a.ps.length (fun gm s5 wr => ∃ i : Nat, s5 = .int .i64 (i : Nat) ∧ i ≤ a.ps.length ∧ a.ps.length - i ≤ gm ∧ Hid (∀ j q, j < i → a.ps[j]? = some q → nk b.ps q = false) ∧ Hid (Hq w wr [] [(B1, b.cs SB sb), (B2, a.cs SA sa)]))
          case atStart => exact ⟨0, rfl, by omega, by omega, hide (fun j q hj => absurd hj (Nat.not_lt_zero _)), LL⟩
          case round =>
            clear LL
            obtain ⟨i, rfl, hil, hgm, HAL, LL⟩ := hrel
            by_cases hlt : i < a.ps.length
            · have dlt : decide ((i : Int) < (a.ps.length : Int)) = true := decide_eq_true (by omega)
              have hw1 : IntKind.i64.wrap ((i : Int) + 1) = (i : Int) + 1 := by have := unhide HZa; rw [IntKind.wrap_i64]; omega
              obtain ⟨p, hp⟩ : ∃ p, a.ps[i]? = some p := ⟨_, List.getElem?_eq_getElem hlt⟩
              obtain ⟨_, bb, off, hSA, hb, hrg⟩ := (unhide HA) i p hp
              have hFI := fun (X : World) (hX : Fr w X []) => find_any SB sb b.ps p.k X ((unhide HB).fr hX) (unhide HZb)
              simp only [kagg] at hFI
              have HLT := hide hlt
              clear hil
              go_wp2_with (first | go_skip | ((with_reducible show wpList _ _ _ _ _ _); first | ((refine rd (by rfl) (ex_load1 32 Tryz.isAgg32 rfl rfl ((unhide LL).get 1 rfl) rfl) ?_); simp only [Act.put, List.setIfInBounds_toArray, List.set_cons_succ, List.set_cons_zero]) | ((refine rd (by rfl) (ex_lenG 32 61 Tryz.underlying32 rfl rfl) ?_); simp only [Act.put, List.setIfInBounds_toArray, List.set_cons_succ, List.set_cons_zero])))
              have hq0 : Hq w _ [] [(B1, b.cs SB sb), (B2, a.cs SA sa)] := (unhide LL).drew
              have hng := fi_neg b.ps p
              cases hnk : nk b.ps p
              · have HYE := hide (anyL_step (f := nk b.ps) (unhide HAL) hp hnk)
                rw [hnk] at hng
                clear hnk
                refine wp_region_held_drew (P := Tryz.prog) (S := fun X => Hq w X [] [(B1, b.cs SB sb), (B2, a.cs SA sa)]) (by kernel_rfl) hq0 (fun hS0 => ?_)
                refine gsem 0 (some 34) (.pointer (some ⟨B1, 7, none⟩)) rfl (by kernel_rfl) (by kernel_rfl) (by kernel_rfl) (fun _ _ _ h => h) (by kernel_rfl) (by kernel_rfl) (fun _ _ => by kernel_rfl) hq0 ?_
                simp only [Act.put, List.setIfInBounds_toArray, List.set_cons_succ, List.set_cons_zero]
                refine gsem 1 (some 35) (.slice SB b.ps.length sb) rfl (by kernel_rfl) (by kernel_rfl) (by kernel_rfl) (fun _ _ _ h => h) (by kernel_rfl) (by kernel_rfl) (fun X hX => ex_load1 32 Tryz.isAgg32 rfl rfl (hX.get 0 rfl) rfl) hq0 ?_
                simp only [Act.put, List.setIfInBounds_toArray, List.set_cons_succ, List.set_cons_zero]
                refine gsem 2 (some 36) (.pointer (some ⟨B2, 7, none⟩)) rfl (by kernel_rfl) (by kernel_rfl) (by kernel_rfl) (fun _ _ _ h => h) (by kernel_rfl) (by kernel_rfl) (fun _ _ => by kernel_rfl) hq0 ?_
                simp only [Act.put, List.setIfInBounds_toArray, List.set_cons_succ, List.set_cons_zero]
                refine gsem 3 (some 37) (.slice SA a.ps.length sa) rfl (by kernel_rfl) (by kernel_rfl) (by kernel_rfl) (fun _ _ _ h => h) (by kernel_rfl) (by kernel_rfl) (fun X hX => ex_load1 32 Tryz.isAgg32 rfl rfl (hX.get 1 rfl) rfl) hq0 ?_
                simp only [Act.put, List.setIfInBounds_toArray, List.set_cons_succ, List.set_cons_zero]
                refine gsem 4 (some 38) (.int .i64 (i : Nat)) rfl (by kernel_rfl) (by kernel_rfl) (by kernel_rfl) (fun _ _ _ h => h) (by kernel_rfl) (by kernel_rfl) (fun _ _ => by kernel_rfl) hq0 ?_
                simp only [Act.put, List.setIfInBounds_toArray, List.set_cons_succ, List.set_cons_zero]
                refine gsem 5 (some 39) (.pointer (some ⟨bb, off + i * 20, none⟩)) rfl (by kernel_rfl) (by kernel_rfl) (by kernel_rfl) (fun _ _ _ h => h) (by kernel_rfl) (by kernel_rfl) (fun X hX => ex_indexA 32 20 i unPs idPs rfl rfl hSA rfl hlt) hq0 ?_
                simp only [Act.put, List.setIfInBounds_toArray, List.set_cons_succ, List.set_cons_zero]
                refine gsem 6 (some 40) (.pointer (some ⟨bb, off + i * 20, none⟩)) rfl (by kernel_rfl) (by kernel_rfl) (by kernel_rfl) (fun _ _ _ h => h) (by kernel_rfl) (by kernel_rfl) (fun _ _ => by kernel_rfl) hq0 ?_
                simp only [Act.put, List.setIfInBounds_toArray, List.set_cons_succ, List.set_cons_zero]
                refine gsem 7 (some 41) (.agg p.k.cs.toArray) rfl (by kernel_rfl) (by kernel_rfl) (by kernel_rfl) (fun _ _ _ h => h) (by kernel_rfl) (by kernel_rfl) (fun X hX => ex_loadR (vs := p.k.cs) 56 2 rwK szK rfl rfl (range_left (a := p.k.cs) (c := p.d.cs) (rangeAt_fr hrg hb hX.fr)) rfl) hq0 ?_
                simp only [Act.put, List.setIfInBounds_toArray, List.set_cons_succ, List.set_cons_zero]
                refine wpAnyH_ready (rs := [8]) (by kernel_rfl) (by simp) (gcallR 8 (some 42) rfl (by kernel_rfl) (by kernel_rfl) (by kernel_rfl) (hFI _ hq0.fr) ?_ AllReadyH.nil)
                rintro e Y8 ⟨rfl, hY8⟩
                have hq08 := Hq.on hq0 hY8
                refine ⟨_, rfl, hq08, ?_⟩
                simp only [Act.put, List.setIfInBounds_toArray, List.set_cons_succ, List.set_cons_zero]
                refine gsem 9 (some 43) (.bool false) rfl (by kernel_rfl) (by kernel_rfl) (by kernel_rfl) (fun _ _ _ h => h) (by kernel_rfl) (by kernel_rfl) (fun X hX => ex_ltI2 rfl rfl rfl hng) hq08 ?_
                simp only [Act.put, List.setIfInBounds_toArray, List.set_cons_succ, List.set_cons_zero]
                refine wpAnyH_done (by kernel_rfl) ?_ _
                try simp only [Act.put, List.setIfInBounds_toArray, List.set_cons_succ, List.set_cons_zero]
                replace LL := hide hq08
                clear hq0 hq08 hS0 hY8 hFI hp hb hrg hlt hSA hng
                go_wp2
                go_roundg (a.ps.length - (i + 1))
                case measure => have := unhide HLT; omega
                case rel => exact ⟨i + 1, by go_num, by have := unhide HLT; omega, by omega, HYE, LL⟩
              · have HNO := hide (anyL_yes (f := nk b.ps) hp hnk)
                rw [hnk] at hng
                clear hnk
                refine wp_region_held_drew (P := Tryz.prog) (S := fun X => Hq w X [] [(B1, b.cs SB sb), (B2, a.cs SA sa)]) (by kernel_rfl) hq0 (fun hS0 => ?_)
                refine gsem 0 (some 34) (.pointer (some ⟨B1, 7, none⟩)) rfl (by kernel_rfl) (by kernel_rfl) (by kernel_rfl) (fun _ _ _ h => h) (by kernel_rfl) (by kernel_rfl) (fun _ _ => by kernel_rfl) hq0 ?_
                simp only [Act.put, List.setIfInBounds_toArray, List.set_cons_succ, List.set_cons_zero]
                refine gsem 1 (some 35) (.slice SB b.ps.length sb) rfl (by kernel_rfl) (by kernel_rfl) (by kernel_rfl) (fun _ _ _ h => h) (by kernel_rfl) (by kernel_rfl) (fun X hX => ex_load1 32 Tryz.isAgg32 rfl rfl (hX.get 0 rfl) rfl) hq0 ?_
                simp only [Act.put, List.setIfInBounds_toArray, List.set_cons_succ, List.set_cons_zero]
                refine gsem 2 (some 36) (.pointer (some ⟨B2, 7, none⟩)) rfl (by kernel_rfl) (by kernel_rfl) (by kernel_rfl) (fun _ _ _ h => h) (by kernel_rfl) (by kernel_rfl) (fun _ _ => by kernel_rfl) hq0 ?_
                simp only [Act.put, List.setIfInBounds_toArray, List.set_cons_succ, List.set_cons_zero]
                refine gsem 3 (some 37) (.slice SA a.ps.length sa) rfl (by kernel_rfl) (by kernel_rfl) (by kernel_rfl) (fun _ _ _ h => h) (by kernel_rfl) (by kernel_rfl) (fun X hX => ex_load1 32 Tryz.isAgg32 rfl rfl (hX.get 1 rfl) rfl) hq0 ?_
                simp only [Act.put, List.setIfInBounds_toArray, List.set_cons_succ, List.set_cons_zero]
                refine gsem 4 (some 38) (.int .i64 (i : Nat)) rfl (by kernel_rfl) (by kernel_rfl) (by kernel_rfl) (fun _ _ _ h => h) (by kernel_rfl) (by kernel_rfl) (fun _ _ => by kernel_rfl) hq0 ?_
                simp only [Act.put, List.setIfInBounds_toArray, List.set_cons_succ, List.set_cons_zero]
                refine gsem 5 (some 39) (.pointer (some ⟨bb, off + i * 20, none⟩)) rfl (by kernel_rfl) (by kernel_rfl) (by kernel_rfl) (fun _ _ _ h => h) (by kernel_rfl) (by kernel_rfl) (fun X hX => ex_indexA 32 20 i unPs idPs rfl rfl hSA rfl hlt) hq0 ?_
                simp only [Act.put, List.setIfInBounds_toArray, List.set_cons_succ, List.set_cons_zero]
                refine gsem 6 (some 40) (.pointer (some ⟨bb, off + i * 20, none⟩)) rfl (by kernel_rfl) (by kernel_rfl) (by kernel_rfl) (fun _ _ _ h => h) (by kernel_rfl) (by kernel_rfl) (fun _ _ => by kernel_rfl) hq0 ?_
                simp only [Act.put, List.setIfInBounds_toArray, List.set_cons_succ, List.set_cons_zero]
                refine gsem 7 (some 41) (.agg p.k.cs.toArray) rfl (by kernel_rfl) (by kernel_rfl) (by kernel_rfl) (fun _ _ _ h => h) (by kernel_rfl) (by kernel_rfl) (fun X hX => ex_loadR (vs := p.k.cs) 56 2 rwK szK rfl rfl (range_left (a := p.k.cs) (c := p.d.cs) (rangeAt_fr hrg hb hX.fr)) rfl) hq0 ?_
                simp only [Act.put, List.setIfInBounds_toArray, List.set_cons_succ, List.set_cons_zero]
                refine wpAnyH_ready (rs := [8]) (by kernel_rfl) (by simp) (gcallR 8 (some 42) rfl (by kernel_rfl) (by kernel_rfl) (by kernel_rfl) (hFI _ hq0.fr) ?_ AllReadyH.nil)
                rintro e Y8 ⟨rfl, hY8⟩
                have hq08 := Hq.on hq0 hY8
                refine ⟨_, rfl, hq08, ?_⟩
                simp only [Act.put, List.setIfInBounds_toArray, List.set_cons_succ, List.set_cons_zero]
                refine gsem 9 (some 43) (.bool true) rfl (by kernel_rfl) (by kernel_rfl) (by kernel_rfl) (fun _ _ _ h => h) (by kernel_rfl) (by kernel_rfl) (fun X hX => ex_ltI2 rfl rfl rfl hng) hq08 ?_
                simp only [Act.put, List.setIfInBounds_toArray, List.set_cons_succ, List.set_cons_zero]
                refine wpAnyH_done (by kernel_rfl) ?_ _
                try simp only [Act.put, List.setIfInBounds_toArray, List.set_cons_succ, List.set_cons_zero]
                replace LL := hide hq08
                clear hq0 hq08 hS0 hY8 hFI hp hb hrg hlt hSA hng
                go_wp2
                go_ret
                exact ⟨_, rfl, r4 (unhide HN4) (by rw [unhide HBX, unhide HNO]; rfl), (unhide LL).fr.below⟩
            · obtain rfl : i = a.ps.length := by omega
              clear hlt hil
              have HN5 := hide (no5 (unhide HN4) (by rw [anyL_no (f := nk b.ps) (unhide HAL)]; simp))
              go_wp2_with (first | go_skip | ((with_reducible show wpList _ _ _ _ _ _); first | ((refine rd (by rfl) (ex_load1 32 Tryz.isAgg32 rfl rfl ((unhide LL).get 0 rfl) rfl) ?_); simp only [Act.put, List.setIfInBounds_toArray, List.set_cons_succ, List.set_cons_zero]) | ((refine rd (by rfl) (ex_load1 32 Tryz.isAgg32 rfl rfl ((unhide LL).get 1 rfl) rfl) ?_); simp only [Act.put, List.setIfInBounds_toArray, List.set_cons_succ, List.set_cons_zero]) | ((refine rd (by rfl) (ex_lenG 32 61 Tryz.underlying32 rfl rfl) ?_); simp only [Act.put, List.setIfInBounds_toArray, List.set_cons_succ, List.set_cons_zero])))
              go_loopg [6] b.ps.length (fun gm s6 wr => ∃ i : Nat, s6 = .int .i64 (i : Nat) ∧ i ≤ b.ps.length ∧ b.ps.length - i ≤ gm ∧ Hid (∀ j, j < i → badAt b.ps a.ps j = false) ∧ Hid (Hq w wr [] [(B1, b.cs SB sb), (B2, a.cs SA sa)]))
              case atStart => exact ⟨0, rfl, by omega, by omega, hide (fun j hj => absurd hj (Nat.not_lt_zero _)), LL⟩
              case round =>
                clear LL
                obtain ⟨i, rfl, hil, hgm, HAL, LL⟩ := hrel
                by_cases hlt : i < b.ps.length
                · have dlt : decide ((i : Int) < (b.ps.length : Int)) = true := decide_eq_true (by omega)
                  have hw1 : IntKind.i64.wrap ((i : Int) + 1) = (i : Int) + 1 := by have := unhide HZb; rw [IntKind.wrap_i64]; omega
                  obtain ⟨p, hp⟩ : ∃ p, b.ps[i]? = some p := ⟨_, List.getElem?_eq_getElem hlt⟩
                  obtain ⟨hok, bb, off, hSA, hb, hrg⟩ := (unhide HB) i p hp
                  have HOK := hide hok.1
                  have HLT := hide hlt
                  have HPI := hide hp
                  have HSA := hide hSA
                  have HRG : Hid (∀ X, Fr w X [] → X.rangeAt bb (off + i * 20) p.cs) := hide (fun X hX => rangeAt_fr hrg hb hX)
                  have hfn := fi_ne hp
                  clear hil hp hok hb hrg hlt hSA
                  cases hfi : (fI b.ps p.k != (i : Int))
                  · cases hlo : (p.d.c != 1)
                    · have hbd : badAt b.ps a.ps i = !kept a.ps p := by unfold badAt; rw [unhide HPI]; dsimp only; rw [hfi] at hfn; simp only [Bool.false_eq, Bool.not_eq_false'] at hfn; rw [hfn]; unfold looseP; rw [hlo]; simp
                      have HBD := hide hbd
                      clear hbd hfn
                      go_wp2_with (first | go_skip | ((with_reducible show wpList _ _ _ _ _ _); first | ((refine rd (by rfl) (ex_load1 32 Tryz.isAgg32 rfl rfl ((unhide LL).get 0 rfl) rfl) ?_); simp only [Act.put, List.setIfInBounds_toArray, List.set_cons_succ, List.set_cons_zero]) | ((refine rd (by rfl) (ex_load1 32 Tryz.isAgg32 rfl rfl ((unhide LL).get 1 rfl) rfl) ?_); simp only [Act.put, List.setIfInBounds_toArray, List.set_cons_succ, List.set_cons_zero]) | ((refine rd (by rfl) (ex_lenG 32 61 Tryz.underlying32 rfl rfl) ?_); simp only [Act.put, List.setIfInBounds_toArray, List.set_cons_succ, List.set_cons_zero]) | ((refine rd (by rfl) (ex_indexA 32 20 i unPs idPs rfl rfl (unhide HSA) rfl (unhide HLT)) ?_); simp only [Act.put, List.setIfInBounds_toArray, List.set_cons_succ, List.set_cons_zero]) | ((refine rd (by rfl) (ex_loadR (vs := p.cs) 61 20 rwP szP rfl rfl (unhide HRG _ (unhide LL).fr) rfl) ?_); simp only [Act.put, List.setIfInBounds_toArray, List.set_cons_succ, List.set_cons_zero]) | ((refine alG 61 (zeroP.cs) (by rfl) rfl (fun w => by kernel_rfl) (Nat.succ_pos _) (show Hq w _ [] [(B1, b.cs SB sb), (B2, a.cs SA sa)] from unhide LL) ?_); intro X3 B3 hE3 L3 hb3; have hB3 := hide (Nat.le_trans (unhide LL).fr.size (Nat.le_of_eq hE3.symm)); replace LL := hide L3; clear L3 hb3 hE3; simp only [Act.put, List.setIfInBounds_toArray, List.set_cons_succ, List.set_cons_zero]) | ((refine st (vs := p.cs) 2 61 (by rfl) rfl rfl rfl rfl (pcs_one p) (szP) (unhide LL) rfl (by simp [cput, PR.cs, SH.cs, VV.cs, KK.cs, DD.cs, CO.cs, DL.cs, zeroP, zeroS, zeroD, zeroV]) (Or.inr (unhide hB3)) ?_); intro X4 L4 hf4 hs4; replace LL := hide L4; clear L4 hf4 hs4; simp only [Act.put, List.setIfInBounds_toArray, List.set_cons_succ, List.set_cons_zero]) | ((refine rd (by rfl) (ex_loadN (vs := p.k.cs) 56 2 rwK szK rfl rfl ((unhide LL).get 2 rfl) rfl rfl) ?_); simp only [Act.put, List.setIfInBounds_toArray, List.set_cons_succ, List.set_cons_zero]) | ((refine rd (by rfl) (ex_load1 57 Tryz.isAgg57 rfl rfl ((unhide LL).get 2 rfl) rfl) ?_); simp only [Act.put, List.setIfInBounds_toArray, List.set_cons_succ, List.set_cons_zero]) | ((refine rd (by rfl) (ex_neI rfl rfl rfl hfi) ?_); simp only [Act.put, List.setIfInBounds_toArray, List.set_cons_succ, List.set_cons_zero]) | ((refine rd (by rfl) (ex_neT rfl rfl rfl hlo) ?_); simp only [Act.put, List.setIfInBounds_toArray, List.set_cons_succ, List.set_cons_zero]) | ((refine rd (by rfl) (ex_ltI2 rfl rfl rfl hng) ?_); simp only [Act.put, List.setIfInBounds_toArray, List.set_cons_succ, List.set_cons_zero])))
                      refine (find_any SB sb b.ps p.k _ ((unhide HB).fr (unhide LL).fr) (unhide HZb)).mono ?_
                      rintro e Z5 ⟨rfl, hZ5⟩
                      replace LL := hide ((unhide LL).on hZ5)
                      clear hZ5
                      go_wp2_with (first | go_skip | ((with_reducible show wpList _ _ _ _ _ _); first | ((refine rd (by rfl) (ex_load1 32 Tryz.isAgg32 rfl rfl ((unhide LL).get 0 rfl) rfl) ?_); simp only [Act.put, List.setIfInBounds_toArray, List.set_cons_succ, List.set_cons_zero]) | ((refine rd (by rfl) (ex_load1 32 Tryz.isAgg32 rfl rfl ((unhide LL).get 1 rfl) rfl) ?_); simp only [Act.put, List.setIfInBounds_toArray, List.set_cons_succ, List.set_cons_zero]) | ((refine rd (by rfl) (ex_lenG 32 61 Tryz.underlying32 rfl rfl) ?_); simp only [Act.put, List.setIfInBounds_toArray, List.set_cons_succ, List.set_cons_zero]) | ((refine rd (by rfl) (ex_indexA 32 20 i unPs idPs rfl rfl (unhide HSA) rfl (unhide HLT)) ?_); simp only [Act.put, List.setIfInBounds_toArray, List.set_cons_succ, List.set_cons_zero]) | ((refine rd (by rfl) (ex_loadR (vs := p.cs) 61 20 rwP szP rfl rfl (unhide HRG _ (unhide LL).fr) rfl) ?_); simp only [Act.put, List.setIfInBounds_toArray, List.set_cons_succ, List.set_cons_zero]) | ((refine alG 61 (zeroP.cs) (by rfl) rfl (fun w => by kernel_rfl) (Nat.succ_pos _) (show Hq w _ [] [(B1, b.cs SB sb), (B2, a.cs SA sa)] from unhide LL) ?_); intro X3 B3 hE3 L3 hb3; have hB3 := hide (Nat.le_trans (unhide LL).fr.size (Nat.le_of_eq hE3.symm)); replace LL := hide L3; clear L3 hb3 hE3; simp only [Act.put, List.setIfInBounds_toArray, List.set_cons_succ, List.set_cons_zero]) | ((refine st (vs := p.cs) 2 61 (by rfl) rfl rfl rfl rfl (pcs_one p) (szP) (unhide LL) rfl (by simp [cput, PR.cs, SH.cs, VV.cs, KK.cs, DD.cs, CO.cs, DL.cs, zeroP, zeroS, zeroD, zeroV]) (Or.inr (unhide hB3)) ?_); intro X4 L4 hf4 hs4; replace LL := hide L4; clear L4 hf4 hs4; simp only [Act.put, List.setIfInBounds_toArray, List.set_cons_succ, List.set_cons_zero]) | ((refine rd (by rfl) (ex_loadN (vs := p.k.cs) 56 2 rwK szK rfl rfl ((unhide LL).get 2 rfl) rfl rfl) ?_); simp only [Act.put, List.setIfInBounds_toArray, List.set_cons_succ, List.set_cons_zero]) | ((refine rd (by rfl) (ex_load1 57 Tryz.isAgg57 rfl rfl ((unhide LL).get 2 rfl) rfl) ?_); simp only [Act.put, List.setIfInBounds_toArray, List.set_cons_succ, List.set_cons_zero]) | ((refine rd (by rfl) (ex_neI rfl rfl rfl hfi) ?_); simp only [Act.put, List.setIfInBounds_toArray, List.set_cons_succ, List.set_cons_zero]) | ((refine rd (by rfl) (ex_neT rfl rfl rfl hlo) ?_); simp only [Act.put, List.setIfInBounds_toArray, List.set_cons_succ, List.set_cons_zero]) | ((refine rd (by rfl) (ex_ltI2 rfl rfl rfl hng) ?_); simp only [Act.put, List.setIfInBounds_toArray, List.set_cons_succ, List.set_cons_zero])))
                      refine (find_any SA sa a.ps p.k _ ((unhide HA).fr (unhide LL).fr) (unhide HZa)).mono ?_
                      rintro e Z6 ⟨rfl, hZ6⟩
                      replace LL := hide ((unhide LL).on hZ6)
                      clear hZ6
                      cases hfo : fO a.ps p.k with
                      | none =>
                        have hng : decide (fI a.ps p.k < 0) = true := by rw [fi_neg]; unfold nk; rw [hfo]; rfl
                        have HBAD : Hid (badAt b.ps a.ps i = true) := hide (by rw [unhide HBD]; unfold kept; rw [hfo]; rfl)
                        clear hfo
                        go_wp2_with (first | go_skip | ((with_reducible show wpList _ _ _ _ _ _); first | ((refine rd (by rfl) (ex_load1 32 Tryz.isAgg32 rfl rfl ((unhide LL).get 0 rfl) rfl) ?_); simp only [Act.put, List.setIfInBounds_toArray, List.set_cons_succ, List.set_cons_zero]) | ((refine rd (by rfl) (ex_load1 32 Tryz.isAgg32 rfl rfl ((unhide LL).get 1 rfl) rfl) ?_); simp only [Act.put, List.setIfInBounds_toArray, List.set_cons_succ, List.set_cons_zero]) | ((refine rd (by rfl) (ex_lenG 32 61 Tryz.underlying32 rfl rfl) ?_); simp only [Act.put, List.setIfInBounds_toArray, List.set_cons_succ, List.set_cons_zero]) | ((refine rd (by rfl) (ex_indexA 32 20 i unPs idPs rfl rfl (unhide HSA) rfl (unhide HLT)) ?_); simp only [Act.put, List.setIfInBounds_toArray, List.set_cons_succ, List.set_cons_zero]) | ((refine rd (by rfl) (ex_loadR (vs := p.cs) 61 20 rwP szP rfl rfl (unhide HRG _ (unhide LL).fr) rfl) ?_); simp only [Act.put, List.setIfInBounds_toArray, List.set_cons_succ, List.set_cons_zero]) | ((refine alG 61 (zeroP.cs) (by rfl) rfl (fun w => by kernel_rfl) (Nat.succ_pos _) (show Hq w _ [] [(B1, b.cs SB sb), (B2, a.cs SA sa)] from unhide LL) ?_); intro X3 B3 hE3 L3 hb3; have hB3 := hide (Nat.le_trans (unhide LL).fr.size (Nat.le_of_eq hE3.symm)); replace LL := hide L3; clear L3 hb3 hE3; simp only [Act.put, List.setIfInBounds_toArray, List.set_cons_succ, List.set_cons_zero]) | ((refine st (vs := p.cs) 2 61 (by rfl) rfl rfl rfl rfl (pcs_one p) (szP) (unhide LL) rfl (by simp [cput, PR.cs, SH.cs, VV.cs, KK.cs, DD.cs, CO.cs, DL.cs, zeroP, zeroS, zeroD, zeroV]) (Or.inr (unhide hB3)) ?_); intro X4 L4 hf4 hs4; replace LL := hide L4; clear L4 hf4 hs4; simp only [Act.put, List.setIfInBounds_toArray, List.set_cons_succ, List.set_cons_zero]) | ((refine rd (by rfl) (ex_loadN (vs := p.k.cs) 56 2 rwK szK rfl rfl ((unhide LL).get 2 rfl) rfl rfl) ?_); simp only [Act.put, List.setIfInBounds_toArray, List.set_cons_succ, List.set_cons_zero]) | ((refine rd (by rfl) (ex_load1 57 Tryz.isAgg57 rfl rfl ((unhide LL).get 2 rfl) rfl) ?_); simp only [Act.put, List.setIfInBounds_toArray, List.set_cons_succ, List.set_cons_zero]) | ((refine rd (by rfl) (ex_neI rfl rfl rfl hfi) ?_); simp only [Act.put, List.setIfInBounds_toArray, List.set_cons_succ, List.set_cons_zero]) | ((refine rd (by rfl) (ex_neT rfl rfl rfl hlo) ?_); simp only [Act.put, List.setIfInBounds_toArray, List.set_cons_succ, List.set_cons_zero]) | ((refine rd (by rfl) (ex_ltI2 rfl rfl rfl hng) ?_); simp only [Act.put, List.setIfInBounds_toArray, List.set_cons_succ, List.set_cons_zero])))
                        go_ret
                        exact ⟨_, rfl, r5 (unhide HN5) (unhide HLT) (unhide HBAD), (unhide LL).fr.below⟩
                      | some m =>
                        have hfm : fI a.ps p.k = (m : Int) := by rw [fI_fO, hfo]; rfl
                        have hng : decide ((m : Int) < 0) = false := decide_eq_false (by omega)
                        rw [hfm]
                        obtain ⟨q, hq, hqk⟩ := fO_get hfo
                        have hmt : m < a.ps.length := (List.getElem?_eq_some_iff.1 hq).1
                        have hkb : badAt b.ps a.ps i = !keepB p.d q.d := by rw [unhide HBD]; unfold kept; rw [hfo]; dsimp only; rw [hq]
                        clear hfo hfm hqk
                        go_wp2_with (first | go_skip | ((with_reducible show wpList _ _ _ _ _ _); first | ((refine rd (by rfl) (ex_load1 32 Tryz.isAgg32 rfl rfl ((unhide LL).get 0 rfl) rfl) ?_); simp only [Act.put, List.setIfInBounds_toArray, List.set_cons_succ, List.set_cons_zero]) | ((refine rd (by rfl) (ex_load1 32 Tryz.isAgg32 rfl rfl ((unhide LL).get 1 rfl) rfl) ?_); simp only [Act.put, List.setIfInBounds_toArray, List.set_cons_succ, List.set_cons_zero]) | ((refine rd (by rfl) (ex_lenG 32 61 Tryz.underlying32 rfl rfl) ?_); simp only [Act.put, List.setIfInBounds_toArray, List.set_cons_succ, List.set_cons_zero]) | ((refine rd (by rfl) (ex_indexA 32 20 i unPs idPs rfl rfl (unhide HSA) rfl (unhide HLT)) ?_); simp only [Act.put, List.setIfInBounds_toArray, List.set_cons_succ, List.set_cons_zero]) | ((refine rd (by rfl) (ex_loadR (vs := p.cs) 61 20 rwP szP rfl rfl (unhide HRG _ (unhide LL).fr) rfl) ?_); simp only [Act.put, List.setIfInBounds_toArray, List.set_cons_succ, List.set_cons_zero]) | ((refine alG 61 (zeroP.cs) (by rfl) rfl (fun w => by kernel_rfl) (Nat.succ_pos _) (show Hq w _ [] [(B1, b.cs SB sb), (B2, a.cs SA sa)] from unhide LL) ?_); intro X3 B3 hE3 L3 hb3; have hB3 := hide (Nat.le_trans (unhide LL).fr.size (Nat.le_of_eq hE3.symm)); replace LL := hide L3; clear L3 hb3 hE3; simp only [Act.put, List.setIfInBounds_toArray, List.set_cons_succ, List.set_cons_zero]) | ((refine st (vs := p.cs) 2 61 (by rfl) rfl rfl rfl rfl (pcs_one p) (szP) (unhide LL) rfl (by simp [cput, PR.cs, SH.cs, VV.cs, KK.cs, DD.cs, CO.cs, DL.cs, zeroP, zeroS, zeroD, zeroV]) (Or.inr (unhide hB3)) ?_); intro X4 L4 hf4 hs4; replace LL := hide L4; clear L4 hf4 hs4; simp only [Act.put, List.setIfInBounds_toArray, List.set_cons_succ, List.set_cons_zero]) | ((refine rd (by rfl) (ex_loadN (vs := p.k.cs) 56 2 rwK szK rfl rfl ((unhide LL).get 2 rfl) rfl rfl) ?_); simp only [Act.put, List.setIfInBounds_toArray, List.set_cons_succ, List.set_cons_zero]) | ((refine rd (by rfl) (ex_load1 57 Tryz.isAgg57 rfl rfl ((unhide LL).get 2 rfl) rfl) ?_); simp only [Act.put, List.setIfInBounds_toArray, List.set_cons_succ, List.set_cons_zero]) | ((refine rd (by rfl) (ex_neI rfl rfl rfl hfi) ?_); simp only [Act.put, List.setIfInBounds_toArray, List.set_cons_succ, List.set_cons_zero]) | ((refine rd (by rfl) (ex_neT rfl rfl rfl hlo) ?_); simp only [Act.put, List.setIfInBounds_toArray, List.set_cons_succ, List.set_cons_zero]) | ((refine rd (by rfl) (ex_ltI2 rfl rfl rfl hng) ?_); simp only [Act.put, List.setIfInBounds_toArray, List.set_cons_succ, List.set_cons_zero])))
                        obtain ⟨hok2, b2, off2, hSA2, hb2, hrg2⟩ := (unhide HA) m q hq
                        have hK := fun (X : World) => refKeeps p.d q.d (unhide HOK) hok2.1 X
                        simp only [dagg, (keep_same p.d q.d).1, (keep_same p.d q.d).2] at hK
                        clear hq
                        have hq0 : Hq w _ [] [(B1, b.cs SB sb), (B2, a.cs SA sa), (B3, p.cs)] := (unhide LL).drew
                        cases hke : keepB p.d q.d
                        · have HBAD : Hid (badAt b.ps a.ps i = true) := hide (by rw [hkb, hke]; rfl)
                          rw [hke] at hK
                          clear hkb hke
                          refine wp_region_held_drew (P := Tryz.prog) (S := fun X => Hq w X [] [(B1, b.cs SB sb), (B2, a.cs SA sa), (B3, p.cs)]) (by kernel_rfl) hq0 (fun hS0 => ?_)
                          refine gsem 0 (some 77) (.pointer (some ⟨B3, 2, none⟩)) rfl (by kernel_rfl) (by kernel_rfl) (by kernel_rfl) (fun _ _ _ h => h) (by kernel_rfl) (by kernel_rfl) (fun _ _ => by kernel_rfl) hq0 ?_
                          simp only [Act.put, List.setIfInBounds_toArray, List.set_cons_succ, List.set_cons_zero]
                          refine gsem 1 (some 78) (.agg p.d.cs.toArray) rfl (by kernel_rfl) (by kernel_rfl) (by kernel_rfl) (fun _ _ _ h => h) (by kernel_rfl) (by kernel_rfl) (fun X hX => ex_loadN (vs := p.d.cs) 59 18 rwD szD rfl rfl (hX.get 2 rfl) rfl rfl) hq0 ?_
                          simp only [Act.put, List.setIfInBounds_toArray, List.set_cons_succ, List.set_cons_zero]
                          refine gsem 2 (some 79) (.pointer (some ⟨B2, 7, none⟩)) rfl (by kernel_rfl) (by kernel_rfl) (by kernel_rfl) (fun _ _ _ h => h) (by kernel_rfl) (by kernel_rfl) (fun _ _ => by kernel_rfl) hq0 ?_
                          simp only [Act.put, List.setIfInBounds_toArray, List.set_cons_succ, List.set_cons_zero]
                          refine gsem 3 (some 80) (.slice SA a.ps.length sa) rfl (by kernel_rfl) (by kernel_rfl) (by kernel_rfl) (fun _ _ _ h => h) (by kernel_rfl) (by kernel_rfl) (fun X hX => ex_load1 32 Tryz.isAgg32 rfl rfl (hX.get 1 rfl) rfl) hq0 ?_
                          simp only [Act.put, List.setIfInBounds_toArray, List.set_cons_succ, List.set_cons_zero]
                          refine gsem 4 (some 81) (.int .i64 (m : Nat)) rfl (by kernel_rfl) (by kernel_rfl) (by kernel_rfl) (fun _ _ _ h => h) (by kernel_rfl) (by kernel_rfl) (fun _ _ => by kernel_rfl) hq0 ?_
                          simp only [Act.put, List.setIfInBounds_toArray, List.set_cons_succ, List.set_cons_zero]
                          refine gsem 5 (some 82) (.pointer (some ⟨b2, off2 + m * 20, none⟩)) rfl (by kernel_rfl) (by kernel_rfl) (by kernel_rfl) (fun _ _ _ h => h) (by kernel_rfl) (by kernel_rfl) (fun X hX => ex_indexA 32 20 m unPs idPs rfl rfl hSA2 rfl hmt) hq0 ?_
                          simp only [Act.put, List.setIfInBounds_toArray, List.set_cons_succ, List.set_cons_zero]
                          refine gsem 6 (some 83) (.pointer (some ⟨b2, off2 + m * 20 + 2, none⟩)) rfl (by kernel_rfl) (by kernel_rfl) (by kernel_rfl) (fun _ _ _ h => h) (by kernel_rfl) (by kernel_rfl) (fun _ _ => by kernel_rfl) hq0 ?_
                          simp only [Act.put, List.setIfInBounds_toArray, List.set_cons_succ, List.set_cons_zero]
                          refine gsem 7 (some 84) (.agg q.d.cs.toArray) rfl (by kernel_rfl) (by kernel_rfl) (by kernel_rfl) (fun _ _ _ h => h) (by kernel_rfl) (by kernel_rfl) (fun X hX => ex_loadR (vs := q.d.cs) 59 18 rwD szD rfl rfl (range_right (a := q.k.cs) (c := q.d.cs) (rangeAt_fr hrg2 hb2 hX.fr)) rfl) hq0 ?_
                          simp only [Act.put, List.setIfInBounds_toArray, List.set_cons_succ, List.set_cons_zero]
                          refine wpAnyH_ready (rs := [8]) (by kernel_rfl) (by simp) (gcallR 8 (some 85) rfl (by kernel_rfl) (by kernel_rfl) (by kernel_rfl) (hK _) ?_ AllReadyH.nil)
                          rintro e Y8 ⟨rfl, hY8⟩
                          have hq08 := Hq.on hq0 hY8
                          refine ⟨_, rfl, hq08, ?_⟩
                          simp only [Act.put, List.setIfInBounds_toArray, List.set_cons_succ, List.set_cons_zero]
                          refine gsem 9 (some 76) (.tuple #[.bool false, .int .i64 (keepE p.d q.d)]) rfl (by kernel_rfl) (by kernel_rfl) (by kernel_rfl) (fun _ _ _ h => h) (by kernel_rfl) (by kernel_rfl) (fun _ _ => by kernel_rfl) hq08 ?_
                          simp only [Act.put, List.setIfInBounds_toArray, List.set_cons_succ, List.set_cons_zero]
                          refine gsem 10 (some 86) (.bool false) rfl (by kernel_rfl) (by kernel_rfl) (by kernel_rfl) (fun _ _ _ h => h) (by kernel_rfl) (by kernel_rfl) (fun _ _ => by kernel_rfl) hq08 ?_
                          simp only [Act.put, List.setIfInBounds_toArray, List.set_cons_succ, List.set_cons_zero]
                          refine gsem 11 (some 87) (.int .i64 (keepE p.d q.d)) rfl (by kernel_rfl) (by kernel_rfl) (by kernel_rfl) (fun _ _ _ h => h) (by kernel_rfl) (by kernel_rfl) (fun _ _ => by kernel_rfl) hq08 ?_
                          simp only [Act.put, List.setIfInBounds_toArray, List.set_cons_succ, List.set_cons_zero]
                          refine gsem 12 (some 9) (.bool false) rfl (by kernel_rfl) (by kernel_rfl) (by kernel_rfl) (fun _ _ _ h => h) (by kernel_rfl) (by kernel_rfl) (fun _ _ => by kernel_rfl) hq08 ?_
                          simp only [Act.put, List.setIfInBounds_toArray, List.set_cons_succ, List.set_cons_zero]
                          refine gsem 13 (some 10) (.int .i64 (keepE p.d q.d)) rfl (by kernel_rfl) (by kernel_rfl) (by kernel_rfl) (fun _ _ _ h => h) (by kernel_rfl) (by kernel_rfl) (fun _ _ => by kernel_rfl) hq08 ?_
                          simp only [Act.put, List.setIfInBounds_toArray, List.set_cons_succ, List.set_cons_zero]
                          refine wpAnyH_done (by kernel_rfl) ?_ _
                          try simp only [Act.put, List.setIfInBounds_toArray, List.set_cons_succ, List.set_cons_zero]
                          replace LL := hide hq08
                          clear hq0 hq08 hS0 hY8 hK hmt hok2 hSA2 hb2 hrg2
                          go_wp2
                          go_ret
                          exact ⟨_, rfl, r5 (unhide HN5) (unhide HLT) (unhide HBAD), (unhide LL).fr.below⟩
                        · have HYE := hide (upB (unhide HAL) (by rw [hkb, hke]; rfl))
                          have h00 : ((0 : Int) != 0) = false := rfl
                          rw [keepE0 hke, hke] at hK
                          clear hkb hke
                          refine wp_region_held_drew (P := Tryz.prog) (S := fun X => Hq w X [] [(B1, b.cs SB sb), (B2, a.cs SA sa), (B3, p.cs)]) (by kernel_rfl) hq0 (fun hS0 => ?_)
                          refine gsem 0 (some 77) (.pointer (some ⟨B3, 2, none⟩)) rfl (by kernel_rfl) (by kernel_rfl) (by kernel_rfl) (fun _ _ _ h => h) (by kernel_rfl) (by kernel_rfl) (fun _ _ => by kernel_rfl) hq0 ?_
                          simp only [Act.put, List.setIfInBounds_toArray, List.set_cons_succ, List.set_cons_zero]
                          refine gsem 1 (some 78) (.agg p.d.cs.toArray) rfl (by kernel_rfl) (by kernel_rfl) (by kernel_rfl) (fun _ _ _ h => h) (by kernel_rfl) (by kernel_rfl) (fun X hX => ex_loadN (vs := p.d.cs) 59 18 rwD szD rfl rfl (hX.get 2 rfl) rfl rfl) hq0 ?_
                          simp only [Act.put, List.setIfInBounds_toArray, List.set_cons_succ, List.set_cons_zero]
                          refine gsem 2 (some 79) (.pointer (some ⟨B2, 7, none⟩)) rfl (by kernel_rfl) (by kernel_rfl) (by kernel_rfl) (fun _ _ _ h => h) (by kernel_rfl) (by kernel_rfl) (fun _ _ => by kernel_rfl) hq0 ?_
                          simp only [Act.put, List.setIfInBounds_toArray, List.set_cons_succ, List.set_cons_zero]
                          refine gsem 3 (some 80) (.slice SA a.ps.length sa) rfl (by kernel_rfl) (by kernel_rfl) (by kernel_rfl) (fun _ _ _ h => h) (by kernel_rfl) (by kernel_rfl) (fun X hX => ex_load1 32 Tryz.isAgg32 rfl rfl (hX.get 1 rfl) rfl) hq0 ?_
                          simp only [Act.put, List.setIfInBounds_toArray, List.set_cons_succ, List.set_cons_zero]
                          refine gsem 4 (some 81) (.int .i64 (m : Nat)) rfl (by kernel_rfl) (by kernel_rfl) (by kernel_rfl) (fun _ _ _ h => h) (by kernel_rfl) (by kernel_rfl) (fun _ _ => by kernel_rfl) hq0 ?_
                          simp only [Act.put, List.setIfInBounds_toArray, List.set_cons_succ, List.set_cons_zero]
                          refine gsem 5 (some 82) (.pointer (some ⟨b2, off2 + m * 20, none⟩)) rfl (by kernel_rfl) (by kernel_rfl) (by kernel_rfl) (fun _ _ _ h => h) (by kernel_rfl) (by kernel_rfl) (fun X hX => ex_indexA 32 20 m unPs idPs rfl rfl hSA2 rfl hmt) hq0 ?_
                          simp only [Act.put, List.setIfInBounds_toArray, List.set_cons_succ, List.set_cons_zero]
                          refine gsem 6 (some 83) (.pointer (some ⟨b2, off2 + m * 20 + 2, none⟩)) rfl (by kernel_rfl) (by kernel_rfl) (by kernel_rfl) (fun _ _ _ h => h) (by kernel_rfl) (by kernel_rfl) (fun _ _ => by kernel_rfl) hq0 ?_
                          simp only [Act.put, List.setIfInBounds_toArray, List.set_cons_succ, List.set_cons_zero]
                          refine gsem 7 (some 84) (.agg q.d.cs.toArray) rfl (by kernel_rfl) (by kernel_rfl) (by kernel_rfl) (fun _ _ _ h => h) (by kernel_rfl) (by kernel_rfl) (fun X hX => ex_loadR (vs := q.d.cs) 59 18 rwD szD rfl rfl (range_right (a := q.k.cs) (c := q.d.cs) (rangeAt_fr hrg2 hb2 hX.fr)) rfl) hq0 ?_
                          simp only [Act.put, List.setIfInBounds_toArray, List.set_cons_succ, List.set_cons_zero]
                          refine wpAnyH_ready (rs := [8]) (by kernel_rfl) (by simp) (gcallR 8 (some 85) rfl (by kernel_rfl) (by kernel_rfl) (by kernel_rfl) (hK _) ?_ AllReadyH.nil)
                          rintro e Y8 ⟨rfl, hY8⟩
                          have hq08 := Hq.on hq0 hY8
                          refine ⟨_, rfl, hq08, ?_⟩
                          simp only [Act.put, List.setIfInBounds_toArray, List.set_cons_succ, List.set_cons_zero]
                          refine gsem 9 (some 76) (.tuple #[.bool true, .int .i64 0]) rfl (by kernel_rfl) (by kernel_rfl) (by kernel_rfl) (fun _ _ _ h => h) (by kernel_rfl) (by kernel_rfl) (fun _ _ => by kernel_rfl) hq08 ?_
                          simp only [Act.put, List.setIfInBounds_toArray, List.set_cons_succ, List.set_cons_zero]
                          refine gsem 10 (some 86) (.bool true) rfl (by kernel_rfl) (by kernel_rfl) (by kernel_rfl) (fun _ _ _ h => h) (by kernel_rfl) (by kernel_rfl) (fun _ _ => by kernel_rfl) hq08 ?_
                          simp only [Act.put, List.setIfInBounds_toArray, List.set_cons_succ, List.set_cons_zero]
                          refine gsem 11 (some 87) (.int .i64 0) rfl (by kernel_rfl) (by kernel_rfl) (by kernel_rfl) (fun _ _ _ h => h) (by kernel_rfl) (by kernel_rfl) (fun _ _ => by kernel_rfl) hq08 ?_
                          simp only [Act.put, List.setIfInBounds_toArray, List.set_cons_succ, List.set_cons_zero]
                          refine gsem 12 (some 9) (.bool true) rfl (by kernel_rfl) (by kernel_rfl) (by kernel_rfl) (fun _ _ _ h => h) (by kernel_rfl) (by kernel_rfl) (fun _ _ => by kernel_rfl) hq08 ?_
                          simp only [Act.put, List.setIfInBounds_toArray, List.set_cons_succ, List.set_cons_zero]
                          refine gsem 13 (some 10) (.int .i64 0) rfl (by kernel_rfl) (by kernel_rfl) (by kernel_rfl) (fun _ _ _ h => h) (by kernel_rfl) (by kernel_rfl) (fun _ _ => by kernel_rfl) hq08 ?_
                          simp only [Act.put, List.setIfInBounds_toArray, List.set_cons_succ, List.set_cons_zero]
                          refine wpAnyH_done (by kernel_rfl) ?_ _
                          try simp only [Act.put, List.setIfInBounds_toArray, List.set_cons_succ, List.set_cons_zero]
                          replace LL := hide hq08
                          clear hq0 hq08 hS0 hY8 hK hmt hok2 hSA2 hb2 hrg2
                          go_wp2_with (first | go_skip | ((with_reducible show wpList _ _ _ _ _ _); first | ((refine rd (by rfl) (ex_neI rfl rfl rfl h00) ?_); simp only [Act.put, List.setIfInBounds_toArray, List.set_cons_succ, List.set_cons_zero])))
                          replace LL := hide (Hq.left (L := [(B1, b.cs SB sb), (B2, a.cs SA sa)]) (unhide LL))
                          go_roundg (b.ps.length - (i + 1))
                          case measure => have := unhide HLT; omega
                          case rel => exact ⟨i + 1, by go_num, by have := unhide HLT; omega, by omega, HYE, LL⟩
                    · have HYE := hide (upB (unhide HAL) (by unfold badAt; rw [unhide HPI]; dsimp only; unfold looseP; rw [hlo]; simp))
                      clear hfn
                      go_wp2_with (first | go_skip | ((with_reducible show wpList _ _ _ _ _ _); first | ((refine rd (by rfl) (ex_load1 32 Tryz.isAgg32 rfl rfl ((unhide LL).get 0 rfl) rfl) ?_); simp only [Act.put, List.setIfInBounds_toArray, List.set_cons_succ, List.set_cons_zero]) | ((refine rd (by rfl) (ex_load1 32 Tryz.isAgg32 rfl rfl ((unhide LL).get 1 rfl) rfl) ?_); simp only [Act.put, List.setIfInBounds_toArray, List.set_cons_succ, List.set_cons_zero]) | ((refine rd (by rfl) (ex_lenG 32 61 Tryz.underlying32 rfl rfl) ?_); simp only [Act.put, List.setIfInBounds_toArray, List.set_cons_succ, List.set_cons_zero]) | ((refine rd (by rfl) (ex_indexA 32 20 i unPs idPs rfl rfl (unhide HSA) rfl (unhide HLT)) ?_); simp only [Act.put, List.setIfInBounds_toArray, List.set_cons_succ, List.set_cons_zero]) | ((refine rd (by rfl) (ex_loadR (vs := p.cs) 61 20 rwP szP rfl rfl (unhide HRG _ (unhide LL).fr) rfl) ?_); simp only [Act.put, List.setIfInBounds_toArray, List.set_cons_succ, List.set_cons_zero]) | ((refine alG 61 (zeroP.cs) (by rfl) rfl (fun w => by kernel_rfl) (Nat.succ_pos _) (show Hq w _ [] [(B1, b.cs SB sb), (B2, a.cs SA sa)] from unhide LL) ?_); intro X3 B3 hE3 L3 hb3; have hB3 := hide (Nat.le_trans (unhide LL).fr.size (Nat.le_of_eq hE3.symm)); replace LL := hide L3; clear L3 hb3 hE3; simp only [Act.put, List.setIfInBounds_toArray, List.set_cons_succ, List.set_cons_zero]) | ((refine st (vs := p.cs) 2 61 (by rfl) rfl rfl rfl rfl (pcs_one p) (szP) (unhide LL) rfl (by simp [cput, PR.cs, SH.cs, VV.cs, KK.cs, DD.cs, CO.cs, DL.cs, zeroP, zeroS, zeroD, zeroV]) (Or.inr (unhide hB3)) ?_); intro X4 L4 hf4 hs4; replace LL := hide L4; clear L4 hf4 hs4; simp only [Act.put, List.setIfInBounds_toArray, List.set_cons_succ, List.set_cons_zero]) | ((refine rd (by rfl) (ex_loadN (vs := p.k.cs) 56 2 rwK szK rfl rfl ((unhide LL).get 2 rfl) rfl rfl) ?_); simp only [Act.put, List.setIfInBounds_toArray, List.set_cons_succ, List.set_cons_zero]) | ((refine rd (by rfl) (ex_load1 57 Tryz.isAgg57 rfl rfl ((unhide LL).get 2 rfl) rfl) ?_); simp only [Act.put, List.setIfInBounds_toArray, List.set_cons_succ, List.set_cons_zero]) | ((refine rd (by rfl) (ex_neI rfl rfl rfl hfi) ?_); simp only [Act.put, List.setIfInBounds_toArray, List.set_cons_succ, List.set_cons_zero]) | ((refine rd (by rfl) (ex_neT rfl rfl rfl hlo) ?_); simp only [Act.put, List.setIfInBounds_toArray, List.set_cons_succ, List.set_cons_zero]) | ((refine rd (by rfl) (ex_ltI2 rfl rfl rfl hng) ?_); simp only [Act.put, List.setIfInBounds_toArray, List.set_cons_succ, List.set_cons_zero])))
                      refine (find_any SB sb b.ps p.k _ ((unhide HB).fr (unhide LL).fr) (unhide HZb)).mono ?_
                      rintro e Z5 ⟨rfl, hZ5⟩
                      replace LL := hide ((unhide LL).on hZ5)
                      clear hZ5
                      go_wp2_with (first | go_skip | ((with_reducible show wpList _ _ _ _ _ _); first | ((refine rd (by rfl) (ex_load1 32 Tryz.isAgg32 rfl rfl ((unhide LL).get 0 rfl) rfl) ?_); simp only [Act.put, List.setIfInBounds_toArray, List.set_cons_succ, List.set_cons_zero]) | ((refine rd (by rfl) (ex_load1 32 Tryz.isAgg32 rfl rfl ((unhide LL).get 1 rfl) rfl) ?_); simp only [Act.put, List.setIfInBounds_toArray, List.set_cons_succ, List.set_cons_zero]) | ((refine rd (by rfl) (ex_lenG 32 61 Tryz.underlying32 rfl rfl) ?_); simp only [Act.put, List.setIfInBounds_toArray, List.set_cons_succ, List.set_cons_zero]) | ((refine rd (by rfl) (ex_indexA 32 20 i unPs idPs rfl rfl (unhide HSA) rfl (unhide HLT)) ?_); simp only [Act.put, List.setIfInBounds_toArray, List.set_cons_succ, List.set_cons_zero]) | ((refine rd (by rfl) (ex_loadR (vs := p.cs) 61 20 rwP szP rfl rfl (unhide HRG _ (unhide LL).fr) rfl) ?_); simp only [Act.put, List.setIfInBounds_toArray, List.set_cons_succ, List.set_cons_zero]) | ((refine alG 61 (zeroP.cs) (by rfl) rfl (fun w => by kernel_rfl) (Nat.succ_pos _) (show Hq w _ [] [(B1, b.cs SB sb), (B2, a.cs SA sa)] from unhide LL) ?_); intro X3 B3 hE3 L3 hb3; have hB3 := hide (Nat.le_trans (unhide LL).fr.size (Nat.le_of_eq hE3.symm)); replace LL := hide L3; clear L3 hb3 hE3; simp only [Act.put, List.setIfInBounds_toArray, List.set_cons_succ, List.set_cons_zero]) | ((refine st (vs := p.cs) 2 61 (by rfl) rfl rfl rfl rfl (pcs_one p) (szP) (unhide LL) rfl (by simp [cput, PR.cs, SH.cs, VV.cs, KK.cs, DD.cs, CO.cs, DL.cs, zeroP, zeroS, zeroD, zeroV]) (Or.inr (unhide hB3)) ?_); intro X4 L4 hf4 hs4; replace LL := hide L4; clear L4 hf4 hs4; simp only [Act.put, List.setIfInBounds_toArray, List.set_cons_succ, List.set_cons_zero]) | ((refine rd (by rfl) (ex_loadN (vs := p.k.cs) 56 2 rwK szK rfl rfl ((unhide LL).get 2 rfl) rfl rfl) ?_); simp only [Act.put, List.setIfInBounds_toArray, List.set_cons_succ, List.set_cons_zero]) | ((refine rd (by rfl) (ex_load1 57 Tryz.isAgg57 rfl rfl ((unhide LL).get 2 rfl) rfl) ?_); simp only [Act.put, List.setIfInBounds_toArray, List.set_cons_succ, List.set_cons_zero]) | ((refine rd (by rfl) (ex_neI rfl rfl rfl hfi) ?_); simp only [Act.put, List.setIfInBounds_toArray, List.set_cons_succ, List.set_cons_zero]) | ((refine rd (by rfl) (ex_neT rfl rfl rfl hlo) ?_); simp only [Act.put, List.setIfInBounds_toArray, List.set_cons_succ, List.set_cons_zero]) | ((refine rd (by rfl) (ex_ltI2 rfl rfl rfl hng) ?_); simp only [Act.put, List.setIfInBounds_toArray, List.set_cons_succ, List.set_cons_zero])))
                      replace LL := hide (Hq.left (L := [(B1, b.cs SB sb), (B2, a.cs SA sa)]) (unhide LL))
                      go_roundg (b.ps.length - (i + 1))
                      case measure => have := unhide HLT; omega
                      case rel => exact ⟨i + 1, by go_num, by have := unhide HLT; omega, by omega, HYE, LL⟩
                  · have HYE := hide (upB (unhide HAL) (by unfold badAt; rw [unhide HPI]; dsimp only; rw [hfi] at hfn; simp only [Bool.true_eq, Bool.not_eq_true'] at hfn; rw [hfn]; simp))
                    clear hfn
                    go_wp2_with (first | go_skip | ((with_reducible show wpList _ _ _ _ _ _); first | ((refine rd (by rfl) (ex_load1 32 Tryz.isAgg32 rfl rfl ((unhide LL).get 0 rfl) rfl) ?_); simp only [Act.put, List.setIfInBounds_toArray, List.set_cons_succ, List.set_cons_zero]) | ((refine rd (by rfl) (ex_load1 32 Tryz.isAgg32 rfl rfl ((unhide LL).get 1 rfl) rfl) ?_); simp only [Act.put, List.setIfInBounds_toArray, List.set_cons_succ, List.set_cons_zero]) | ((refine rd (by rfl) (ex_lenG 32 61 Tryz.underlying32 rfl rfl) ?_); simp only [Act.put, List.setIfInBounds_toArray, List.set_cons_succ, List.set_cons_zero]) | ((refine rd (by rfl) (ex_indexA 32 20 i unPs idPs rfl rfl (unhide HSA) rfl (unhide HLT)) ?_); simp only [Act.put, List.setIfInBounds_toArray, List.set_cons_succ, List.set_cons_zero]) | ((refine rd (by rfl) (ex_loadR (vs := p.cs) 61 20 rwP szP rfl rfl (unhide HRG _ (unhide LL).fr) rfl) ?_); simp only [Act.put, List.setIfInBounds_toArray, List.set_cons_succ, List.set_cons_zero]) | ((refine alG 61 (zeroP.cs) (by rfl) rfl (fun w => by kernel_rfl) (Nat.succ_pos _) (show Hq w _ [] [(B1, b.cs SB sb), (B2, a.cs SA sa)] from unhide LL) ?_); intro X3 B3 hE3 L3 hb3; have hB3 := hide (Nat.le_trans (unhide LL).fr.size (Nat.le_of_eq hE3.symm)); replace LL := hide L3; clear L3 hb3 hE3; simp only [Act.put, List.setIfInBounds_toArray, List.set_cons_succ, List.set_cons_zero]) | ((refine st (vs := p.cs) 2 61 (by rfl) rfl rfl rfl rfl (pcs_one p) (szP) (unhide LL) rfl (by simp [cput, PR.cs, SH.cs, VV.cs, KK.cs, DD.cs, CO.cs, DL.cs, zeroP, zeroS, zeroD, zeroV]) (Or.inr (unhide hB3)) ?_); intro X4 L4 hf4 hs4; replace LL := hide L4; clear L4 hf4 hs4; simp only [Act.put, List.setIfInBounds_toArray, List.set_cons_succ, List.set_cons_zero]) | ((refine rd (by rfl) (ex_loadN (vs := p.k.cs) 56 2 rwK szK rfl rfl ((unhide LL).get 2 rfl) rfl rfl) ?_); simp only [Act.put, List.setIfInBounds_toArray, List.set_cons_succ, List.set_cons_zero]) | ((refine rd (by rfl) (ex_load1 57 Tryz.isAgg57 rfl rfl ((unhide LL).get 2 rfl) rfl) ?_); simp only [Act.put, List.setIfInBounds_toArray, List.set_cons_succ, List.set_cons_zero]) | ((refine rd (by rfl) (ex_neI rfl rfl rfl hfi) ?_); simp only [Act.put, List.setIfInBounds_toArray, List.set_cons_succ, List.set_cons_zero]) | ((refine rd (by rfl) (ex_neT rfl rfl rfl hlo) ?_); simp only [Act.put, List.setIfInBounds_toArray, List.set_cons_succ, List.set_cons_zero]) | ((refine rd (by rfl) (ex_ltI2 rfl rfl rfl hng) ?_); simp only [Act.put, List.setIfInBounds_toArray, List.set_cons_succ, List.set_cons_zero])))
                    refine (find_any SB sb b.ps p.k _ ((unhide HB).fr (unhide LL).fr) (unhide HZb)).mono ?_
                    rintro e Z5 ⟨rfl, hZ5⟩
                    replace LL := hide ((unhide LL).on hZ5)
                    clear hZ5
                    go_wp2_with (first | go_skip | ((with_reducible show wpList _ _ _ _ _ _); first | ((refine rd (by rfl) (ex_load1 32 Tryz.isAgg32 rfl rfl ((unhide LL).get 0 rfl) rfl) ?_); simp only [Act.put, List.setIfInBounds_toArray, List.set_cons_succ, List.set_cons_zero]) | ((refine rd (by rfl) (ex_load1 32 Tryz.isAgg32 rfl rfl ((unhide LL).get 1 rfl) rfl) ?_); simp only [Act.put, List.setIfInBounds_toArray, List.set_cons_succ, List.set_cons_zero]) | ((refine rd (by rfl) (ex_lenG 32 61 Tryz.underlying32 rfl rfl) ?_); simp only [Act.put, List.setIfInBounds_toArray, List.set_cons_succ, List.set_cons_zero]) | ((refine rd (by rfl) (ex_indexA 32 20 i unPs idPs rfl rfl (unhide HSA) rfl (unhide HLT)) ?_); simp only [Act.put, List.setIfInBounds_toArray, List.set_cons_succ, List.set_cons_zero]) | ((refine rd (by rfl) (ex_loadR (vs := p.cs) 61 20 rwP szP rfl rfl (unhide HRG _ (unhide LL).fr) rfl) ?_); simp only [Act.put, List.setIfInBounds_toArray, List.set_cons_succ, List.set_cons_zero]) | ((refine alG 61 (zeroP.cs) (by rfl) rfl (fun w => by kernel_rfl) (Nat.succ_pos _) (show Hq w _ [] [(B1, b.cs SB sb), (B2, a.cs SA sa)] from unhide LL) ?_); intro X3 B3 hE3 L3 hb3; have hB3 := hide (Nat.le_trans (unhide LL).fr.size (Nat.le_of_eq hE3.symm)); replace LL := hide L3; clear L3 hb3 hE3; simp only [Act.put, List.setIfInBounds_toArray, List.set_cons_succ, List.set_cons_zero]) | ((refine st (vs := p.cs) 2 61 (by rfl) rfl rfl rfl rfl (pcs_one p) (szP) (unhide LL) rfl (by simp [cput, PR.cs, SH.cs, VV.cs, KK.cs, DD.cs, CO.cs, DL.cs, zeroP, zeroS, zeroD, zeroV]) (Or.inr (unhide hB3)) ?_); intro X4 L4 hf4 hs4; replace LL := hide L4; clear L4 hf4 hs4; simp only [Act.put, List.setIfInBounds_toArray, List.set_cons_succ, List.set_cons_zero]) | ((refine rd (by rfl) (ex_loadN (vs := p.k.cs) 56 2 rwK szK rfl rfl ((unhide LL).get 2 rfl) rfl rfl) ?_); simp only [Act.put, List.setIfInBounds_toArray, List.set_cons_succ, List.set_cons_zero]) | ((refine rd (by rfl) (ex_load1 57 Tryz.isAgg57 rfl rfl ((unhide LL).get 2 rfl) rfl) ?_); simp only [Act.put, List.setIfInBounds_toArray, List.set_cons_succ, List.set_cons_zero]) | ((refine rd (by rfl) (ex_neI rfl rfl rfl hfi) ?_); simp only [Act.put, List.setIfInBounds_toArray, List.set_cons_succ, List.set_cons_zero]) | ((refine rd (by rfl) (ex_neT rfl rfl rfl hlo) ?_); simp only [Act.put, List.setIfInBounds_toArray, List.set_cons_succ, List.set_cons_zero]) | ((refine rd (by rfl) (ex_ltI2 rfl rfl rfl hng) ?_); simp only [Act.put, List.setIfInBounds_toArray, List.set_cons_succ, List.set_cons_zero])))
                    replace LL := hide (Hq.left (L := [(B1, b.cs SB sb), (B2, a.cs SA sa)]) (unhide LL))
                    go_roundg (b.ps.length - (i + 1))
                    case measure => have := unhide HLT; omega
                    case rel => exact ⟨i + 1, by go_num, by have := unhide HLT; omega, by omega, HYE, LL⟩
                · obtain rfl : i = b.ps.length := by omega
                  clear hlt hil
                  have HR0 : Hid (RuleP b a 0) := hide (.inl ⟨rfl, no6 (unhide HN5) (unhide HAL)⟩)
                  go_wp2_with (first | go_skip | ((with_reducible show wpList _ _ _ _ _ _); first | ((refine rd (by rfl) (ex_load1 32 Tryz.isAgg32 rfl rfl ((unhide LL).get 0 rfl) rfl) ?_); simp only [Act.put, List.setIfInBounds_toArray, List.set_cons_succ, List.set_cons_zero]) | ((refine rd (by rfl) (ex_lenG 32 61 Tryz.underlying32 rfl rfl) ?_); simp only [Act.put, List.setIfInBounds_toArray, List.set_cons_succ, List.set_cons_zero])))
                  go_ret
                  exact ⟨_, rfl, unhide HR0, (unhide LL).fr.below⟩
      · have HR := hide (r2 (unhide HN2) (by rw [unhide HBX, hax]; rfl))
        rw [hax] at H6b
        clear hax
        go_wp2_with (first | go_skip | ((with_reducible show wpList _ _ _ _ _ _); first | ((refine rd (by rfl) (ex_neI rfl rfl rfl hc) ?_); simp only [Act.put, List.setIfInBounds_toArray, List.set_cons_succ, List.set_cons_zero]) | ((refine bx 34 (b.cs SB sb) (by rfl) rfl rfl rfl (Nat.succ_pos _) (show Hq w _ [] [] from unhide LL) ?_); intro X1 B1 hE1 L1 hb1; replace LL := hide L1; clear L1 hb1 hE1; simp only [Act.put, List.setIfInBounds_toArray, List.set_cons_succ, List.set_cons_zero]) | ((refine bx 34 (a.cs SA sa) (by rfl) rfl rfl rfl (Nat.succ_pos _) (unhide LL) ?_); intro X2 B2 hE2 L2 hb2; replace LL := hide L2; clear L2 hb2 hE2; simp only [Act.put, List.setIfInBounds_toArray, List.set_cons_succ, List.set_cons_zero]) | ((refine rd (by rfl) (ex_load1 3 Tryz.isAgg3 rfl rfl ((unhide LL).get 0 rfl) rfl) ?_); simp only [Act.put, List.setIfInBounds_toArray, List.set_cons_succ, List.set_cons_zero]) | ((refine rd (by rfl) (ex_load1 3 Tryz.isAgg3 rfl rfl ((unhide LL).get 1 rfl) rfl) ?_); simp only [Act.put, List.setIfInBounds_toArray, List.set_cons_succ, List.set_cons_zero]) | ((refine rd (by rfl) (ex_load1 4 Tryz.isAgg4 rfl rfl ((unhide LL).get 0 rfl) (unhide H6)) ?_); simp only [Act.put, List.setIfInBounds_toArray, List.set_cons_succ, List.set_cons_zero]) | ((refine rd (by rfl) (ex_load1 4 Tryz.isAgg4 rfl rfl ((unhide LL).get 1 rfl) (unhide H6b)) ?_); simp only [Act.put, List.setIfInBounds_toArray, List.set_cons_succ, List.set_cons_zero]) | ((refine rd (by rfl) (ex_loadN (vs := b.p.cs) 31 5 rwV szV rfl rfl ((unhide LL).get 0 rfl) rfl rfl) ?_); simp only [Act.put, List.setIfInBounds_toArray, List.set_cons_succ, List.set_cons_zero]) | ((refine rd (by rfl) (ex_loadN (vs := a.p.cs) 31 5 rwV szV rfl rfl ((unhide LL).get 1 rfl) rfl rfl) ?_); simp only [Act.put, List.setIfInBounds_toArray, List.set_cons_succ, List.set_cons_zero]) | ((refine rd (by rfl) (ex_load1 32 Tryz.isAgg32 rfl rfl ((unhide LL).get 0 rfl) rfl) ?_); simp only [Act.put, List.setIfInBounds_toArray, List.set_cons_succ, List.set_cons_zero]) | ((refine rd (by rfl) (ex_load1 32 Tryz.isAgg32 rfl rfl ((unhide LL).get 1 rfl) rfl) ?_); simp only [Act.put, List.setIfInBounds_toArray, List.set_cons_succ, List.set_cons_zero]) | ((refine rd (by rfl) (ex_lenG 32 61 Tryz.underlying32 rfl rfl) ?_); simp only [Act.put, List.setIfInBounds_toArray, List.set_cons_succ, List.set_cons_zero])))
        go_ret
        exact ⟨_, rfl, unhide HR, (unhide LL).fr.below⟩
    · have HN5 := hide (no5 (no4 (no3 (unhide HN2) (by rw [hbx]; rfl)) (by rw [hbx]; rfl)) (by rw [hbx]; rfl))
      rw [hbx] at H6
      clear hbx
      go_wp2_with (first | go_skip | ((with_reducible show wpList _ _ _ _ _ _); first | ((refine rd (by rfl) (ex_neI rfl rfl rfl hc) ?_); simp only [Act.put, List.setIfInBounds_toArray, List.set_cons_succ, List.set_cons_zero]) | ((refine bx 34 (b.cs SB sb) (by rfl) rfl rfl rfl (Nat.succ_pos _) (show Hq w _ [] [] from unhide LL) ?_); intro X1 B1 hE1 L1 hb1; replace LL := hide L1; clear L1 hb1 hE1; simp only [Act.put, List.setIfInBounds_toArray, List.set_cons_succ, List.set_cons_zero]) | ((refine bx 34 (a.cs SA sa) (by rfl) rfl rfl rfl (Nat.succ_pos _) (unhide LL) ?_); intro X2 B2 hE2 L2 hb2; replace LL := hide L2; clear L2 hb2 hE2; simp only [Act.put, List.setIfInBounds_toArray, List.set_cons_succ, List.set_cons_zero]) | ((refine rd (by rfl) (ex_load1 3 Tryz.isAgg3 rfl rfl ((unhide LL).get 0 rfl) rfl) ?_); simp only [Act.put, List.setIfInBounds_toArray, List.set_cons_succ, List.set_cons_zero]) | ((refine rd (by rfl) (ex_load1 3 Tryz.isAgg3 rfl rfl ((unhide LL).get 1 rfl) rfl) ?_); simp only [Act.put, List.setIfInBounds_toArray, List.set_cons_succ, List.set_cons_zero]) | ((refine rd (by rfl) (ex_load1 4 Tryz.isAgg4 rfl rfl ((unhide LL).get 0 rfl) (unhide H6)) ?_); simp only [Act.put, List.setIfInBounds_toArray, List.set_cons_succ, List.set_cons_zero]) | ((refine rd (by rfl) (ex_load1 4 Tryz.isAgg4 rfl rfl ((unhide LL).get 1 rfl) (unhide H6b)) ?_); simp only [Act.put, List.setIfInBounds_toArray, List.set_cons_succ, List.set_cons_zero]) | ((refine rd (by rfl) (ex_loadN (vs := b.p.cs) 31 5 rwV szV rfl rfl ((unhide LL).get 0 rfl) rfl rfl) ?_); simp only [Act.put, List.setIfInBounds_toArray, List.set_cons_succ, List.set_cons_zero]) | ((refine rd (by rfl) (ex_loadN (vs := a.p.cs) 31 5 rwV szV rfl rfl ((unhide LL).get 1 rfl) rfl rfl) ?_); simp only [Act.put, List.setIfInBounds_toArray, List.set_cons_succ, List.set_cons_zero]) | ((refine rd (by rfl) (ex_load1 32 Tryz.isAgg32 rfl rfl ((unhide LL).get 0 rfl) rfl) ?_); simp only [Act.put, List.setIfInBounds_toArray, List.set_cons_succ, List.set_cons_zero]) | ((refine rd (by rfl) (ex_load1 32 Tryz.isAgg32 rfl rfl ((unhide LL).get 1 rfl) rfl) ?_); simp only [Act.put, List.setIfInBounds_toArray, List.set_cons_succ, List.set_cons_zero]) | ((refine rd (by rfl) (ex_lenG 32 61 Tryz.underlying32 rfl rfl) ?_); simp only [Act.put, List.setIfInBounds_toArray, List.set_cons_succ, List.set_cons_zero]) | ((refine rd (by rfl) (ex_neI rfl rfl rfl hc) ?_); simp only [Act.put, List.setIfInBounds_toArray, List.set_cons_succ, List.set_cons_zero])))
      go_loopg [6] b.ps.length (fun gm s6 wr => ∃ i : Nat, s6 = .int .i64 (i : Nat) ∧ i ≤ b.ps.length ∧ b.ps.length - i ≤ gm ∧ Hid (∀ j, j < i → badAt b.ps a.ps j = false) ∧ Hid (Hq w wr [] [(B1, b.cs SB sb), (B2, a.cs SA sa)]))
      case atStart => exact ⟨0, rfl, by omega, by omega, hide (fun j hj => absurd hj (Nat.not_lt_zero _)), LL⟩
      case round =>
        clear LL
        obtain ⟨i, rfl, hil, hgm, HAL, LL⟩ := hrel
        by_cases hlt : i < b.ps.length
        · have dlt : decide ((i : Int) < (b.ps.length : Int)) = true := decide_eq_true (by omega)
          have hw1 : IntKind.i64.wrap ((i : Int) + 1) = (i : Int) + 1 := by have := unhide HZb; rw [IntKind.wrap_i64]; omega
          obtain ⟨p, hp⟩ : ∃ p, b.ps[i]? = some p := ⟨_, List.getElem?_eq_getElem hlt⟩
          obtain ⟨hok, bb, off, hSA, hb, hrg⟩ := (unhide HB) i p hp
          have HOK := hide hok.1
          have HLT := hide hlt
          have HPI := hide hp
          have HSA := hide hSA
          have HRG : Hid (∀ X, Fr w X [] → X.rangeAt bb (off + i * 20) p.cs) := hide (fun X hX => rangeAt_fr hrg hb hX)
          have hfn := fi_ne hp
          clear hil hp hok hb hrg hlt hSA
          cases hfi : (fI b.ps p.k != (i : Int))
          · cases hlo : (p.d.c != 1)
            · have hbd : badAt b.ps a.ps i = !kept a.ps p := by unfold badAt; rw [unhide HPI]; dsimp only; rw [hfi] at hfn; simp only [Bool.false_eq, Bool.not_eq_false'] at hfn; rw [hfn]; unfold looseP; rw [hlo]; simp
              have HBD := hide hbd
              clear hbd hfn
              go_wp2_with (first | go_skip | ((with_reducible show wpList _ _ _ _ _ _); first | ((refine rd (by rfl) (ex_load1 32 Tryz.isAgg32 rfl rfl ((unhide LL).get 0 rfl) rfl) ?_); simp only [Act.put, List.setIfInBounds_toArray, List.set_cons_succ, List.set_cons_zero]) | ((refine rd (by rfl) (ex_load1 32 Tryz.isAgg32 rfl rfl ((unhide LL).get 1 rfl) rfl) ?_); simp only [Act.put, List.setIfInBounds_toArray, List.set_cons_succ, List.set_cons_zero]) | ((refine rd (by rfl) (ex_lenG 32 61 Tryz.underlying32 rfl rfl) ?_); simp only [Act.put, List.setIfInBounds_toArray, List.set_cons_succ, List.set_cons_zero]) | ((refine rd (by rfl) (ex_indexA 32 20 i unPs idPs rfl rfl (unhide HSA) rfl (unhide HLT)) ?_); simp only [Act.put, List.setIfInBounds_toArray, List.set_cons_succ, List.set_cons_zero]) | ((refine rd (by rfl) (ex_loadR (vs := p.cs) 61 20 rwP szP rfl rfl (unhide HRG _ (unhide LL).fr) rfl) ?_); simp only [Act.put, List.setIfInBounds_toArray, List.set_cons_succ, List.set_cons_zero]) | ((refine alG 61 (zeroP.cs) (by rfl) rfl (fun w => by kernel_rfl) (Nat.succ_pos _) (show Hq w _ [] [(B1, b.cs SB sb), (B2, a.cs SA sa)] from unhide LL) ?_); intro X3 B3 hE3 L3 hb3; have hB3 := hide (Nat.le_trans (unhide LL).fr.size (Nat.le_of_eq hE3.symm)); replace LL := hide L3; clear L3 hb3 hE3; simp only [Act.put, List.setIfInBounds_toArray, List.set_cons_succ, List.set_cons_zero]) | ((refine st (vs := p.cs) 2 61 (by rfl) rfl rfl rfl rfl (pcs_one p) (szP) (unhide LL) rfl (by simp [cput, PR.cs, SH.cs, VV.cs, KK.cs, DD.cs, CO.cs, DL.cs, zeroP, zeroS, zeroD, zeroV]) (Or.inr (unhide hB3)) ?_); intro X4 L4 hf4 hs4; replace LL := hide L4; clear L4 hf4 hs4; simp only [Act.put, List.setIfInBounds_toArray, List.set_cons_succ, List.set_cons_zero]) | ((refine rd (by rfl) (ex_loadN (vs := p.k.cs) 56 2 rwK szK rfl rfl ((unhide LL).get 2 rfl) rfl rfl) ?_); simp only [Act.put, List.setIfInBounds_toArray, List.set_cons_succ, List.set_cons_zero]) | ((refine rd (by rfl) (ex_load1 57 Tryz.isAgg57 rfl rfl ((unhide LL).get 2 rfl) rfl) ?_); simp only [Act.put, List.setIfInBounds_toArray, List.set_cons_succ, List.set_cons_zero]) | ((refine rd (by rfl) (ex_neI rfl rfl rfl hfi) ?_); simp only [Act.put, List.setIfInBounds_toArray, List.set_cons_succ, List.set_cons_zero]) | ((refine rd (by rfl) (ex_neT rfl rfl rfl hlo) ?_); simp only [Act.put, List.setIfInBounds_toArray, List.set_cons_succ, List.set_cons_zero]) | ((refine rd (by rfl) (ex_ltI2 rfl rfl rfl hng) ?_); simp only [Act.put, List.setIfInBounds_toArray, List.set_cons_succ, List.set_cons_zero])))
              refine (find_any SB sb b.ps p.k _ ((unhide HB).fr (unhide LL).fr) (unhide HZb)).mono ?_
              rintro e Z5 ⟨rfl, hZ5⟩
              replace LL := hide ((unhide LL).on hZ5)
              clear hZ5
              go_wp2_with (first | go_skip | ((with_reducible show wpList _ _ _ _ _ _); first | ((refine rd (by rfl) (ex_load1 32 Tryz.isAgg32 rfl rfl ((unhide LL).get 0 rfl) rfl) ?_); simp only [Act.put, List.setIfInBounds_toArray, List.set_cons_succ, List.set_cons_zero]) | ((refine rd (by rfl) (ex_load1 32 Tryz.isAgg32 rfl rfl ((unhide LL).get 1 rfl) rfl) ?_); simp only [Act.put, List.setIfInBounds_toArray, List.set_cons_succ, List.set_cons_zero]) | ((refine rd (by rfl) (ex_lenG 32 61 Tryz.underlying32 rfl rfl) ?_); simp only [Act.put, List.setIfInBounds_toArray, List.set_cons_succ, List.set_cons_zero]) | ((refine rd (by rfl) (ex_indexA 32 20 i unPs idPs rfl rfl (unhide HSA) rfl (unhide HLT)) ?_); simp only [Act.put, List.setIfInBounds_toArray, List.set_cons_succ, List.set_cons_zero]) | ((refine rd (by rfl) (ex_loadR (vs := p.cs) 61 20 rwP szP rfl rfl (unhide HRG _ (unhide LL).fr) rfl) ?_); simp only [Act.put, List.setIfInBounds_toArray, List.set_cons_succ, List.set_cons_zero]) | ((refine alG 61 (zeroP.cs) (by rfl) rfl (fun w => by kernel_rfl) (Nat.succ_pos _) (show Hq w _ [] [(B1, b.cs SB sb), (B2, a.cs SA sa)] from unhide LL) ?_); intro X3 B3 hE3 L3 hb3; have hB3 := hide (Nat.le_trans (unhide LL).fr.size (Nat.le_of_eq hE3.symm)); replace LL := hide L3; clear L3 hb3 hE3; simp only [Act.put, List.setIfInBounds_toArray, List.set_cons_succ, List.set_cons_zero]) | ((refine st (vs := p.cs) 2 61 (by rfl) rfl rfl rfl rfl (pcs_one p) (szP) (unhide LL) rfl (by simp [cput, PR.cs, SH.cs, VV.cs, KK.cs, DD.cs, CO.cs, DL.cs, zeroP, zeroS, zeroD, zeroV]) (Or.inr (unhide hB3)) ?_); intro X4 L4 hf4 hs4; replace LL := hide L4; clear L4 hf4 hs4; simp only [Act.put, List.setIfInBounds_toArray, List.set_cons_succ, List.set_cons_zero]) | ((refine rd (by rfl) (ex_loadN (vs := p.k.cs) 56 2 rwK szK rfl rfl ((unhide LL).get 2 rfl) rfl rfl) ?_); simp only [Act.put, List.setIfInBounds_toArray, List.set_cons_succ, List.set_cons_zero]) | ((refine rd (by rfl) (ex_load1 57 Tryz.isAgg57 rfl rfl ((unhide LL).get 2 rfl) rfl) ?_); simp only [Act.put, List.setIfInBounds_toArray, List.set_cons_succ, List.set_cons_zero]) | ((refine rd (by rfl) (ex_neI rfl rfl rfl hfi) ?_); simp only [Act.put, List.setIfInBounds_toArray, List.set_cons_succ, List.set_cons_zero]) | ((refine rd (by rfl) (ex_neT rfl rfl rfl hlo) ?_); simp only [Act.put, List.setIfInBounds_toArray, List.set_cons_succ, List.set_cons_zero]) | ((refine rd (by rfl) (ex_ltI2 rfl rfl rfl hng) ?_); simp only [Act.put, List.setIfInBounds_toArray, List.set_cons_succ, List.set_cons_zero])))
              refine (find_any SA sa a.ps p.k _ ((unhide HA).fr (unhide LL).fr) (unhide HZa)).mono ?_
              rintro e Z6 ⟨rfl, hZ6⟩
              replace LL := hide ((unhide LL).on hZ6)
              clear hZ6
              cases hfo : fO a.ps p.k with
              | none =>
                have hng : decide (fI a.ps p.k < 0) = true := by rw [fi_neg]; unfold nk; rw [hfo]; rfl
                have HBAD : Hid (badAt b.ps a.ps i = true) := hide (by rw [unhide HBD]; unfold kept; rw [hfo]; rfl)
                clear hfo
                go_wp2_with (first | go_skip | ((with_reducible show wpList _ _ _ _ _ _); first | ((refine rd (by rfl) (ex_load1 32 Tryz.isAgg32 rfl rfl ((unhide LL).get 0 rfl) rfl) ?_); simp only [Act.put, List.setIfInBounds_toArray, List.set_cons_succ, List.set_cons_zero]) | ((refine rd (by rfl) (ex_load1 32 Tryz.isAgg32 rfl rfl ((unhide LL).get 1 rfl) rfl) ?_); simp only [Act.put, List.setIfInBounds_toArray, List.set_cons_succ, List.set_cons_zero]) | ((refine rd (by rfl) (ex_lenG 32 61 Tryz.underlying32 rfl rfl) ?_); simp only [Act.put, List.setIfInBounds_toArray, List.set_cons_succ, List.set_cons_zero]) | ((refine rd (by rfl) (ex_indexA 32 20 i unPs idPs rfl rfl (unhide HSA) rfl (unhide HLT)) ?_); simp only [Act.put, List.setIfInBounds_toArray, List.set_cons_succ, List.set_cons_zero]) | ((refine rd (by rfl) (ex_loadR (vs := p.cs) 61 20 rwP szP rfl rfl (unhide HRG _ (unhide LL).fr) rfl) ?_); simp only [Act.put, List.setIfInBounds_toArray, List.set_cons_succ, List.set_cons_zero]) | ((refine alG 61 (zeroP.cs) (by rfl) rfl (fun w => by kernel_rfl) (Nat.succ_pos _) (show Hq w _ [] [(B1, b.cs SB sb), (B2, a.cs SA sa)] from unhide LL) ?_); intro X3 B3 hE3 L3 hb3; have hB3 := hide (Nat.le_trans (unhide LL).fr.size (Nat.le_of_eq hE3.symm)); replace LL := hide L3; clear L3 hb3 hE3; simp only [Act.put, List.setIfInBounds_toArray, List.set_cons_succ, List.set_cons_zero]) | ((refine st (vs := p.cs) 2 61 (by rfl) rfl rfl rfl rfl (pcs_one p) (szP) (unhide LL) rfl (by simp [cput, PR.cs, SH.cs, VV.cs, KK.cs, DD.cs, CO.cs, DL.cs, zeroP, zeroS, zeroD, zeroV]) (Or.inr (unhide hB3)) ?_); intro X4 L4 hf4 hs4; replace LL := hide L4; clear L4 hf4 hs4; simp only [Act.put, List.setIfInBounds_toArray, List.set_cons_succ, List.set_cons_zero]) | ((refine rd (by rfl) (ex_loadN (vs := p.k.cs) 56 2 rwK szK rfl rfl ((unhide LL).get 2 rfl) rfl rfl) ?_); simp only [Act.put, List.setIfInBounds_toArray, List.set_cons_succ, List.set_cons_zero]) | ((refine rd (by rfl) (ex_load1 57 Tryz.isAgg57 rfl rfl ((unhide LL).get 2 rfl) rfl) ?_); simp only [Act.put, List.setIfInBounds_toArray, List.set_cons_succ, List.set_cons_zero]) | ((refine rd (by rfl) (ex_neI rfl rfl rfl hfi) ?_); simp only [Act.put, List.setIfInBounds_toArray, List.set_cons_succ, List.set_cons_zero]) | ((refine rd (by rfl) (ex_neT rfl rfl rfl hlo) ?_); simp only [Act.put, List.setIfInBounds_toArray, List.set_cons_succ, List.set_cons_zero]) | ((refine rd (by rfl) (ex_ltI2 rfl rfl rfl hng) ?_); simp only [Act.put, List.setIfInBounds_toArray, List.set_cons_succ, List.set_cons_zero])))
                go_ret
                exact ⟨_, rfl, r5 (unhide HN5) (unhide HLT) (unhide HBAD), (unhide LL).fr.below⟩
              | some m =>
                have hfm : fI a.ps p.k = (m : Int) := by rw [fI_fO, hfo]; rfl
                have hng : decide ((m : Int) < 0) = false := decide_eq_false (by omega)
                rw [hfm]
                obtain ⟨q, hq, hqk⟩ := fO_get hfo
                have hmt : m < a.ps.length := (List.getElem?_eq_some_iff.1 hq).1
                have hkb : badAt b.ps a.ps i = !keepB p.d q.d := by rw [unhide HBD]; unfold kept; rw [hfo]; dsimp only; rw [hq]
                clear hfo hfm hqk
                go_wp2_with (first | go_skip | ((with_reducible show wpList _ _ _ _ _ _); first | ((refine rd (by rfl) (ex_load1 32 Tryz.isAgg32 rfl rfl ((unhide LL).get 0 rfl) rfl) ?_); simp only [Act.put, List.setIfInBounds_toArray, List.set_cons_succ, List.set_cons_zero]) | ((refine rd (by rfl) (ex_load1 32 Tryz.isAgg32 rfl rfl ((unhide LL).get 1 rfl) rfl) ?_); simp only [Act.put, List.setIfInBounds_toArray, List.set_cons_succ, List.set_cons_zero]) | ((refine rd (by rfl) (ex_lenG 32 61 Tryz.underlying32 rfl rfl) ?_); simp only [Act.put, List.setIfInBounds_toArray, List.set_cons_succ, List.set_cons_zero]) | ((refine rd (by rfl) (ex_indexA 32 20 i unPs idPs rfl rfl (unhide HSA) rfl (unhide HLT)) ?_); simp only [Act.put, List.setIfInBounds_toArray, List.set_cons_succ, List.set_cons_zero]) | ((refine rd (by rfl) (ex_loadR (vs := p.cs) 61 20 rwP szP rfl rfl (unhide HRG _ (unhide LL).fr) rfl) ?_); simp only [Act.put, List.setIfInBounds_toArray, List.set_cons_succ, List.set_cons_zero]) | ((refine alG 61 (zeroP.cs) (by rfl) rfl (fun w => by kernel_rfl) (Nat.succ_pos _) (show Hq w _ [] [(B1, b.cs SB sb), (B2, a.cs SA sa)] from unhide LL) ?_); intro X3 B3 hE3 L3 hb3; have hB3 := hide (Nat.le_trans (unhide LL).fr.size (Nat.le_of_eq hE3.symm)); replace LL := hide L3; clear L3 hb3 hE3; simp only [Act.put, List.setIfInBounds_toArray, List.set_cons_succ, List.set_cons_zero]) | ((refine st (vs := p.cs) 2 61 (by rfl) rfl rfl rfl rfl (pcs_one p) (szP) (unhide LL) rfl (by simp [cput, PR.cs, SH.cs, VV.cs, KK.cs, DD.cs, CO.cs, DL.cs, zeroP, zeroS, zeroD, zeroV]) (Or.inr (unhide hB3)) ?_); intro X4 L4 hf4 hs4; replace LL := hide L4; clear L4 hf4 hs4; simp only [Act.put, List.setIfInBounds_toArray, List.set_cons_succ, List.set_cons_zero]) | ((refine rd (by rfl) (ex_loadN (vs := p.k.cs) 56 2 rwK szK rfl rfl ((unhide LL).get 2 rfl) rfl rfl) ?_); simp only [Act.put, List.setIfInBounds_toArray, List.set_cons_succ, List.set_cons_zero]) | ((refine rd (by rfl) (ex_load1 57 Tryz.isAgg57 rfl rfl ((unhide LL).get 2 rfl) rfl) ?_); simp only [Act.put, List.setIfInBounds_toArray, List.set_cons_succ, List.set_cons_zero]) | ((refine rd (by rfl) (ex_neI rfl rfl rfl hfi) ?_); simp only [Act.put, List.setIfInBounds_toArray, List.set_cons_succ, List.set_cons_zero]) | ((refine rd (by rfl) (ex_neT rfl rfl rfl hlo) ?_); simp only [Act.put, List.setIfInBounds_toArray, List.set_cons_succ, List.set_cons_zero]) | ((refine rd (by rfl) (ex_ltI2 rfl rfl rfl hng) ?_); simp only [Act.put, List.setIfInBounds_toArray, List.set_cons_succ, List.set_cons_zero])))
                obtain ⟨hok2, b2, off2, hSA2, hb2, hrg2⟩ := (unhide HA) m q hq
                have hK := fun (X : World) => refKeeps p.d q.d (unhide HOK) hok2.1 X
                simp only [dagg, (keep_same p.d q.d).1, (keep_same p.d q.d).2] at hK
                clear hq
                have hq0 : Hq w _ [] [(B1, b.cs SB sb), (B2, a.cs SA sa), (B3, p.cs)] := (unhide LL).drew
                cases hke : keepB p.d q.d
                · have HBAD : Hid (badAt b.ps a.ps i = true) := hide (by rw [hkb, hke]; rfl)
                  rw [hke] at hK
                  clear hkb hke
                  refine wp_region_held_drew (P := Tryz.prog) (S := fun X => Hq w X [] [(B1, b.cs SB sb), (B2, a.cs SA sa), (B3, p.cs)]) (by kernel_rfl) hq0 (fun hS0 => ?_)
                  refine gsem 0 (some 77) (.pointer (some ⟨B3, 2, none⟩)) rfl (by kernel_rfl) (by kernel_rfl) (by kernel_rfl) (fun _ _ _ h => h) (by kernel_rfl) (by kernel_rfl) (fun _ _ => by kernel_rfl) hq0 ?_
                  simp only [Act.put, List.setIfInBounds_toArray, List.set_cons_succ, List.set_cons_zero]
                  refine gsem 1 (some 78) (.agg p.d.cs.toArray) rfl (by kernel_rfl) (by kernel_rfl) (by kernel_rfl) (fun _ _ _ h => h) (by kernel_rfl) (by kernel_rfl) (fun X hX => ex_loadN (vs := p.d.cs) 59 18 rwD szD rfl rfl (hX.get 2 rfl) rfl rfl) hq0 ?_
                  simp only [Act.put, List.setIfInBounds_toArray, List.set_cons_succ, List.set_cons_zero]
                  refine gsem 2 (some 79) (.pointer (some ⟨B2, 7, none⟩)) rfl (by kernel_rfl) (by kernel_rfl) (by kernel_rfl) (fun _ _ _ h => h) (by kernel_rfl) (by kernel_rfl) (fun _ _ => by kernel_rfl) hq0 ?_
                  simp only [Act.put, List.setIfInBounds_toArray, List.set_cons_succ, List.set_cons_zero]
                  refine gsem 3 (some 80) (.slice SA a.ps.length sa) rfl (by kernel_rfl) (by kernel_rfl) (by kernel_rfl) (fun _ _ _ h => h) (by kernel_rfl) (by kernel_rfl) (fun X hX => ex_load1 32 Tryz.isAgg32 rfl rfl (hX.get 1 rfl) rfl) hq0 ?_
                  simp only [Act.put, List.setIfInBounds_toArray, List.set_cons_succ, List.set_cons_zero]
                  refine gsem 4 (some 81) (.int .i64 (m : Nat)) rfl (by kernel_rfl) (by kernel_rfl) (by kernel_rfl) (fun _ _ _ h => h) (by kernel_rfl) (by kernel_rfl) (fun _ _ => by kernel_rfl) hq0 ?_
                  simp only [Act.put, List.setIfInBounds_toArray, List.set_cons_succ, List.set_cons_zero]
                  refine gsem 5 (some 82) (.pointer (some ⟨b2, off2 + m * 20, none⟩)) rfl (by kernel_rfl) (by kernel_rfl) (by kernel_rfl) (fun _ _ _ h => h) (by kernel_rfl) (by kernel_rfl) (fun X hX => ex_indexA 32 20 m unPs idPs rfl rfl hSA2 rfl hmt) hq0 ?_
                  simp only [Act.put, List.setIfInBounds_toArray, List.set_cons_succ, List.set_cons_zero]
                  refine gsem 6 (some 83) (.pointer (some ⟨b2, off2 + m * 20 + 2, none⟩)) rfl (by kernel_rfl) (by kernel_rfl) (by kernel_rfl) (fun _ _ _ h => h) (by kernel_rfl) (by kernel_rfl) (fun _ _ => by kernel_rfl) hq0 ?_
                  simp only [Act.put, List.setIfInBounds_toArray, List.set_cons_succ, List.set_cons_zero]
                  refine gsem 7 (some 84) (.agg q.d.cs.toArray) rfl (by kernel_rfl) (by kernel_rfl) (by kernel_rfl) (fun _ _ _ h => h) (by kernel_rfl) (by kernel_rfl) (fun X hX => ex_loadR (vs := q.d.cs) 59 18 rwD szD rfl rfl (range_right (a := q.k.cs) (c := q.d.cs) (rangeAt_fr hrg2 hb2 hX.fr)) rfl) hq0 ?_
                  simp only [Act.put, List.setIfInBounds_toArray, List.set_cons_succ, List.set_cons_zero]
                  refine wpAnyH_ready (rs := [8]) (by kernel_rfl) (by simp) (gcallR 8 (some 85) rfl (by kernel_rfl) (by kernel_rfl) (by kernel_rfl) (hK _) ?_ AllReadyH.nil)
                  rintro e Y8 ⟨rfl, hY8⟩
                  have hq08 := Hq.on hq0 hY8
                  refine ⟨_, rfl, hq08, ?_⟩
                  simp only [Act.put, List.setIfInBounds_toArray, List.set_cons_succ, List.set_cons_zero]
                  refine gsem 9 (some 76) (.tuple #[.bool false, .int .i64 (keepE p.d q.d)]) rfl (by kernel_rfl) (by kernel_rfl) (by kernel_rfl) (fun _ _ _ h => h) (by kernel_rfl) (by kernel_rfl) (fun _ _ => by kernel_rfl) hq08 ?_
                  simp only [Act.put, List.setIfInBounds_toArray, List.set_cons_succ, List.set_cons_zero]
                  refine gsem 10 (some 86) (.bool false) rfl (by kernel_rfl) (by kernel_rfl) (by kernel_rfl) (fun _ _ _ h => h) (by kernel_rfl) (by kernel_rfl) (fun _ _ => by kernel_rfl) hq08 ?_
                  simp only [Act.put, List.setIfInBounds_toArray, List.set_cons_succ, List.set_cons_zero]
                  refine gsem 11 (some 87) (.int .i64 (keepE p.d q.d)) rfl (by kernel_rfl) (by kernel_rfl) (by kernel_rfl) (fun _ _ _ h => h) (by kernel_rfl) (by kernel_rfl) (fun _ _ => by kernel_rfl) hq08 ?_
                  simp only [Act.put, List.setIfInBounds_toArray, List.set_cons_succ, List.set_cons_zero]
                  refine gsem 12 (some 9) (.bool false) rfl (by kernel_rfl) (by kernel_rfl) (by kernel_rfl) (fun _ _ _ h => h) (by kernel_rfl) (by kernel_rfl) (fun _ _ => by kernel_rfl) hq08 ?_
                  simp only [Act.put, List.setIfInBounds_toArray, List.set_cons_succ, List.set_cons_zero]
                  refine gsem 13 (some 10) (.int .i64 (keepE p.d q.d)) rfl (by kernel_rfl) (by kernel_rfl) (by kernel_rfl) (fun _ _ _ h => h) (by kernel_rfl) (by kernel_rfl) (fun _ _ => by kernel_rfl) hq08 ?_
                  simp only [Act.put, List.setIfInBounds_toArray, List.set_cons_succ, List.set_cons_zero]
                  refine wpAnyH_done (by kernel_rfl) ?_ _
                  try simp only [Act.put, List.setIfInBounds_toArray, List.set_cons_succ, List.set_cons_zero]
                  replace LL := hide hq08
                  clear hq0 hq08 hS0 hY8 hK hmt hok2 hSA2 hb2 hrg2
                  go_wp2
                  go_ret
                  exact ⟨_, rfl, r5 (unhide HN5) (unhide HLT) (unhide HBAD), (unhide LL).fr.below⟩
                · have HYE := hide (upB (unhide HAL) (by rw [hkb, hke]; rfl))
                  have h00 : ((0 : Int) != 0) = false := rfl
                  rw [keepE0 hke, hke] at hK
                  clear hkb hke
                  refine wp_region_held_drew (P := Tryz.prog) (S := fun X => Hq w X [] [(B1, b.cs SB sb), (B2, a.cs SA sa), (B3, p.cs)]) (by kernel_rfl) hq0 (fun hS0 => ?_)
                  refine gsem 0 (some 77) (.pointer (some ⟨B3, 2, none⟩)) rfl (by kernel_rfl) (by kernel_rfl) (by kernel_rfl) (fun _ _ _ h => h) (by kernel_rfl) (by kernel_rfl) (fun _ _ => by kernel_rfl) hq0 ?_
                  simp only [Act.put, List.setIfInBounds_toArray, List.set_cons_succ, List.set_cons_zero]
                  refine gsem 1 (some 78) (.agg p.d.cs.toArray) rfl (by kernel_rfl) (by kernel_rfl) (by kernel_rfl) (fun _ _ _ h => h) (by kernel_rfl) (by kernel_rfl) (fun X hX => ex_loadN (vs := p.d.cs) 59 18 rwD szD rfl rfl (hX.get 2 rfl) rfl rfl) hq0 ?_
                  simp only [Act.put, List.setIfInBounds_toArray, List.set_cons_succ, List.set_cons_zero]
                  refine gsem 2 (some 79) (.pointer (some ⟨B2, 7, none⟩)) rfl (by kernel_rfl) (by kernel_rfl) (by kernel_rfl) (fun _ _ _ h => h) (by kernel_rfl) (by kernel_rfl) (fun _ _ => by kernel_rfl) hq0 ?_
                  simp only [Act.put, List.setIfInBounds_toArray, List.set_cons_succ, List.set_cons_zero]
                  refine gsem 3 (some 80) (.slice SA a.ps.length sa) rfl (by kernel_rfl) (by kernel_rfl) (by kernel_rfl) (fun _ _ _ h => h) (by kernel_rfl) (by kernel_rfl) (fun X hX => ex_load1 32 Tryz.isAgg32 rfl rfl (hX.get 1 rfl) rfl) hq0 ?_
                  simp only [Act.put, List.setIfInBounds_toArray, List.set_cons_succ, List.set_cons_zero]
                  refine gsem 4 (some 81) (.int .i64 (m : Nat)) rfl (by kernel_rfl) (by kernel_rfl) (by kernel_rfl) (fun _ _ _ h => h) (by kernel_rfl) (by kernel_rfl) (fun _ _ => by kernel_rfl) hq0 ?_
                  simp only [Act.put, List.setIfInBounds_toArray, List.set_cons_succ, List.set_cons_zero]
                  refine gsem 5 (some 82) (.pointer (some ⟨b2, off2 + m * 20, none⟩)) rfl (by kernel_rfl) (by kernel_rfl) (by kernel_rfl) (fun _ _ _ h => h) (by kernel_rfl) (by kernel_rfl) (fun X hX => ex_indexA 32 20 m unPs idPs rfl rfl hSA2 rfl hmt) hq0 ?_
                  simp only [Act.put, List.setIfInBounds_toArray, List.set_cons_succ, List.set_cons_zero]
                  refine gsem 6 (some 83) (.pointer (some ⟨b2, off2 + m * 20 + 2, none⟩)) rfl (by kernel_rfl) (by kernel_rfl) (by kernel_rfl) (fun _ _ _ h => h) (by kernel_rfl) (by kernel_rfl) (fun _ _ => by kernel_rfl) hq0 ?_
                  simp only [Act.put, List.setIfInBounds_toArray, List.set_cons_succ, List.set_cons_zero]
                  refine gsem 7 (some 84) (.agg q.d.cs.toArray) rfl (by kernel_rfl) (by kernel_rfl) (by kernel_rfl) (fun _ _ _ h => h) (by kernel_rfl) (by kernel_rfl) (fun X hX => ex_loadR (vs := q.d.cs) 59 18 rwD szD rfl rfl (range_right (a := q.k.cs) (c := q.d.cs) (rangeAt_fr hrg2 hb2 hX.fr)) rfl) hq0 ?_
                  simp only [Act.put, List.setIfInBounds_toArray, List.set_cons_succ, List.set_cons_zero]
                  refine wpAnyH_ready (rs := [8]) (by kernel_rfl) (by simp) (gcallR 8 (some 85) rfl (by kernel_rfl) (by kernel_rfl) (by kernel_rfl) (hK _) ?_ AllReadyH.nil)
                  rintro e Y8 ⟨rfl, hY8⟩
                  have hq08 := Hq.on hq0 hY8
                  refine ⟨_, rfl, hq08, ?_⟩
                  simp only [Act.put, List.setIfInBounds_toArray, List.set_cons_succ, List.set_cons_zero]
                  refine gsem 9 (some 76) (.tuple #[.bool true, .int .i64 0]) rfl (by kernel_rfl) (by kernel_rfl) (by kernel_rfl) (fun _ _ _ h => h) (by kernel_rfl) (by kernel_rfl) (fun _ _ => by kernel_rfl) hq08 ?_
                  simp only [Act.put, List.setIfInBounds_toArray, List.set_cons_succ, List.set_cons_zero]
                  refine gsem 10 (some 86) (.bool true) rfl (by kernel_rfl) (by kernel_rfl) (by kernel_rfl) (fun _ _ _ h => h) (by kernel_rfl) (by kernel_rfl) (fun _ _ => by kernel_rfl) hq08 ?_
                  simp only [Act.put, List.setIfInBounds_toArray, List.set_cons_succ, List.set_cons_zero]
                  refine gsem 11 (some 87) (.int .i64 0) rfl (by kernel_rfl) (by kernel_rfl) (by kernel_rfl) (fun _ _ _ h => h) (by kernel_rfl) (by kernel_rfl) (fun _ _ => by kernel_rfl) hq08 ?_
                  simp only [Act.put, List.setIfInBounds_toArray, List.set_cons_succ, List.set_cons_zero]
                  refine gsem 12 (some 9) (.bool true) rfl (by kernel_rfl) (by kernel_rfl) (by kernel_rfl) (fun _ _ _ h => h) (by kernel_rfl) (by kernel_rfl) (fun _ _ => by kernel_rfl) hq08 ?_
                  simp only [Act.put, List.setIfInBounds_toArray, List.set_cons_succ, List.set_cons_zero]
                  refine gsem 13 (some 10) (.int .i64 0) rfl (by kernel_rfl) (by kernel_rfl) (by kernel_rfl) (fun _ _ _ h => h) (by kernel_rfl) (by kernel_rfl) (fun _ _ => by kernel_rfl) hq08 ?_
                  simp only [Act.put, List.setIfInBounds_toArray, List.set_cons_succ, List.set_cons_zero]
                  refine wpAnyH_done (by kernel_rfl) ?_ _
                  try simp only [Act.put, List.setIfInBounds_toArray, List.set_cons_succ, List.set_cons_zero]
                  replace LL := hide hq08
                  clear hq0 hq08 hS0 hY8 hK hmt hok2 hSA2 hb2 hrg2
                  go_wp2_with (first | go_skip | ((with_reducible show wpList _ _ _ _ _ _); first | ((refine rd (by rfl) (ex_neI rfl rfl rfl h00) ?_); simp only [Act.put, List.setIfInBounds_toArray, List.set_cons_succ, List.set_cons_zero])))
                  replace LL := hide (Hq.left (L := [(B1, b.cs SB sb), (B2, a.cs SA sa)]) (unhide LL))
                  go_roundg (b.ps.length - (i + 1))
                  case measure => have := unhide HLT; omega
                  case rel => exact ⟨i + 1, by go_num, by have := unhide HLT; omega, by omega, HYE, LL⟩
            · have HYE := hide (upB (unhide HAL) (by unfold badAt; rw [unhide HPI]; dsimp only; unfold looseP; rw [hlo]; simp))
              clear hfn
              go_wp2_with (first | go_skip | ((with_reducible show wpList _ _ _ _ _ _); first | ((refine rd (by rfl) (ex_load1 32 Tryz.isAgg32 rfl rfl ((unhide LL).get 0 rfl) rfl) ?_); simp only [Act.put, List.setIfInBounds_toArray, List.set_cons_succ, List.set_cons_zero]) | ((refine rd (by rfl) (ex_load1 32 Tryz.isAgg32 rfl rfl ((unhide LL).get 1 rfl) rfl) ?_); simp only [Act.put, List.setIfInBounds_toArray, List.set_cons_succ, List.set_cons_zero]) | ((refine rd (by rfl) (ex_lenG 32 61 Tryz.underlying32 rfl rfl) ?_); simp only [Act.put, List.setIfInBounds_toArray, List.set_cons_succ, List.set_cons_zero]) | ((refine rd (by rfl) (ex_indexA 32 20 i unPs idPs rfl rfl (unhide HSA) rfl (unhide HLT)) ?_); simp only [Act.put, List.setIfInBounds_toArray, List.set_cons_succ, List.set_cons_zero]) | ((refine rd (by rfl) (ex_loadR (vs := p.cs) 61 20 rwP szP rfl rfl (unhide HRG _ (unhide LL).fr) rfl) ?_); simp only [Act.put, List.setIfInBounds_toArray, List.set_cons_succ, List.set_cons_zero]) | ((refine alG 61 (zeroP.cs) (by rfl) rfl (fun w => by kernel_rfl) (Nat.succ_pos _) (show Hq w _ [] [(B1, b.cs SB sb), (B2, a.cs SA sa)] from unhide LL) ?_); intro X3 B3 hE3 L3 hb3; have hB3 := hide (Nat.le_trans (unhide LL).fr.size (Nat.le_of_eq hE3.symm)); replace LL := hide L3; clear L3 hb3 hE3; simp only [Act.put, List.setIfInBounds_toArray, List.set_cons_succ, List.set_cons_zero]) | ((refine st (vs := p.cs) 2 61 (by rfl) rfl rfl rfl rfl (pcs_one p) (szP) (unhide LL) rfl (by simp [cput, PR.cs, SH.cs, VV.cs, KK.cs, DD.cs, CO.cs, DL.cs, zeroP, zeroS, zeroD, zeroV]) (Or.inr (unhide hB3)) ?_); intro X4 L4 hf4 hs4; replace LL := hide L4; clear L4 hf4 hs4; simp only [Act.put, List.setIfInBounds_toArray, List.set_cons_succ, List.set_cons_zero]) | ((refine rd (by rfl) (ex_loadN (vs := p.k.cs) 56 2 rwK szK rfl rfl ((unhide LL).get 2 rfl) rfl rfl) ?_); simp only [Act.put, List.setIfInBounds_toArray, List.set_cons_succ, List.set_cons_zero]) | ((refine rd (by rfl) (ex_load1 57 Tryz.isAgg57 rfl rfl ((unhide LL).get 2 rfl) rfl) ?_); simp only [Act.put, List.setIfInBounds_toArray, List.set_cons_succ, List.set_cons_zero]) | ((refine rd (by rfl) (ex_neI rfl rfl rfl hfi) ?_); simp only [Act.put, List.setIfInBounds_toArray, List.set_cons_succ, List.set_cons_zero]) | ((refine rd (by rfl) (ex_neT rfl rfl rfl hlo) ?_); simp only [Act.put, List.setIfInBounds_toArray, List.set_cons_succ, List.set_cons_zero]) | ((refine rd (by rfl) (ex_ltI2 rfl rfl rfl hng) ?_); simp only [Act.put, List.setIfInBounds_toArray, List.set_cons_succ, List.set_cons_zero])))
              refine (find_any SB sb b.ps p.k _ ((unhide HB).fr (unhide LL).fr) (unhide HZb)).mono ?_
              rintro e Z5 ⟨rfl, hZ5⟩
              replace LL := hide ((unhide LL).on hZ5)
              clear hZ5
              go_wp2_with (first | go_skip | ((with_reducible show wpList _ _ _ _ _ _); first | ((refine rd (by rfl) (ex_load1 32 Tryz.isAgg32 rfl rfl ((unhide LL).get 0 rfl) rfl) ?_); simp only [Act.put, List.setIfInBounds_toArray, List.set_cons_succ, List.set_cons_zero]) | ((refine rd (by rfl) (ex_load1 32 Tryz.isAgg32 rfl rfl ((unhide LL).get 1 rfl) rfl) ?_); simp only [Act.put, List.setIfInBounds_toArray, List.set_cons_succ, List.set_cons_zero]) | ((refine rd (by rfl) (ex_lenG 32 61 Tryz.underlying32 rfl rfl) ?_); simp only [Act.put, List.setIfInBounds_toArray, List.set_cons_succ, List.set_cons_zero]) | ((refine rd (by rfl) (ex_indexA 32 20 i unPs idPs rfl rfl (unhide HSA) rfl (unhide HLT)) ?_); simp only [Act.put, List.setIfInBounds_toArray, List.set_cons_succ, List.set_cons_zero]) | ((refine rd (by rfl) (ex_loadR (vs := p.cs) 61 20 rwP szP rfl rfl (unhide HRG _ (unhide LL).fr) rfl) ?_); simp only [Act.put, List.setIfInBounds_toArray, List.set_cons_succ, List.set_cons_zero]) | ((refine alG 61 (zeroP.cs) (by rfl) rfl (fun w => by kernel_rfl) (Nat.succ_pos _) (show Hq w _ [] [(B1, b.cs SB sb), (B2, a.cs SA sa)] from unhide LL) ?_); intro X3 B3 hE3 L3 hb3; have hB3 := hide (Nat.le_trans (unhide LL).fr.size (Nat.le_of_eq hE3.symm)); replace LL := hide L3; clear L3 hb3 hE3; simp only [Act.put, List.setIfInBounds_toArray, List.set_cons_succ, List.set_cons_zero]) | ((refine st (vs := p.cs) 2 61 (by rfl) rfl rfl rfl rfl (pcs_one p) (szP) (unhide LL) rfl (by simp [cput, PR.cs, SH.cs, VV.cs, KK.cs, DD.cs, CO.cs, DL.cs, zeroP, zeroS, zeroD, zeroV]) (Or.inr (unhide hB3)) ?_); intro X4 L4 hf4 hs4; replace LL := hide L4; clear L4 hf4 hs4; simp only [Act.put, List.setIfInBounds_toArray, List.set_cons_succ, List.set_cons_zero]) | ((refine rd (by rfl) (ex_loadN (vs := p.k.cs) 56 2 rwK szK rfl rfl ((unhide LL).get 2 rfl) rfl rfl) ?_); simp only [Act.put, List.setIfInBounds_toArray, List.set_cons_succ, List.set_cons_zero]) | ((refine rd (by rfl) (ex_load1 57 Tryz.isAgg57 rfl rfl ((unhide LL).get 2 rfl) rfl) ?_); simp only [Act.put, List.setIfInBounds_toArray, List.set_cons_succ, List.set_cons_zero]) | ((refine rd (by rfl) (ex_neI rfl rfl rfl hfi) ?_); simp only [Act.put, List.setIfInBounds_toArray, List.set_cons_succ, List.set_cons_zero]) | ((refine rd (by rfl) (ex_neT rfl rfl rfl hlo) ?_); simp only [Act.put, List.setIfInBounds_toArray, List.set_cons_succ, List.set_cons_zero]) | ((refine rd (by rfl) (ex_ltI2 rfl rfl rfl hng) ?_); simp only [Act.put, List.setIfInBounds_toArray, List.set_cons_succ, List.set_cons_zero])))
              replace LL := hide (Hq.left (L := [(B1, b.cs SB sb), (B2, a.cs SA sa)]) (unhide LL))
              go_roundg (b.ps.length - (i + 1))
              case measure => have := unhide HLT; omega
              case rel => exact ⟨i + 1, by go_num, by have := unhide HLT; omega, by omega, HYE, LL⟩
          · have HYE := hide (upB (unhide HAL) (by unfold badAt; rw [unhide HPI]; dsimp only; rw [hfi] at hfn; simp only [Bool.true_eq, Bool.not_eq_true'] at hfn; rw [hfn]; simp))
            clear hfn
            go_wp2_with (first | go_skip | ((with_reducible show wpList _ _ _ _ _ _); first | ((refine rd (by rfl) (ex_load1 32 Tryz.isAgg32 rfl rfl ((unhide LL).get 0 rfl) rfl) ?_); simp only [Act.put, List.setIfInBounds_toArray, List.set_cons_succ, List.set_cons_zero]) | ((refine rd (by rfl) (ex_load1 32 Tryz.isAgg32 rfl rfl ((unhide LL).get 1 rfl) rfl) ?_); simp only [Act.put, List.setIfInBounds_toArray, List.set_cons_succ, List.set_cons_zero]) | ((refine rd (by rfl) (ex_lenG 32 61 Tryz.underlying32 rfl rfl) ?_); simp only [Act.put, List.setIfInBounds_toArray, List.set_cons_succ, List.set_cons_zero]) | ((refine rd (by rfl) (ex_indexA 32 20 i unPs idPs rfl rfl (unhide HSA) rfl (unhide HLT)) ?_); simp only [Act.put, List.setIfInBounds_toArray, List.set_cons_succ, List.set_cons_zero]) | ((refine rd (by rfl) (ex_loadR (vs := p.cs) 61 20 rwP szP rfl rfl (unhide HRG _ (unhide LL).fr) rfl) ?_); simp only [Act.put, List.setIfInBounds_toArray, List.set_cons_succ, List.set_cons_zero]) | ((refine alG 61 (zeroP.cs) (by rfl) rfl (fun w => by kernel_rfl) (Nat.succ_pos _) (show Hq w _ [] [(B1, b.cs SB sb), (B2, a.cs SA sa)] from unhide LL) ?_); intro X3 B3 hE3 L3 hb3; have hB3 := hide (Nat.le_trans (unhide LL).fr.size (Nat.le_of_eq hE3.symm)); replace LL := hide L3; clear L3 hb3 hE3; simp only [Act.put, List.setIfInBounds_toArray, List.set_cons_succ, List.set_cons_zero]) | ((refine st (vs := p.cs) 2 61 (by rfl) rfl rfl rfl rfl (pcs_one p) (szP) (unhide LL) rfl (by simp [cput, PR.cs, SH.cs, VV.cs, KK.cs, DD.cs, CO.cs, DL.cs, zeroP, zeroS, zeroD, zeroV]) (Or.inr (unhide hB3)) ?_); intro X4 L4 hf4 hs4; replace LL := hide L4; clear L4 hf4 hs4; simp only [Act.put, List.setIfInBounds_toArray, List.set_cons_succ, List.set_cons_zero]) | ((refine rd (by rfl) (ex_loadN (vs := p.k.cs) 56 2 rwK szK rfl rfl ((unhide LL).get 2 rfl) rfl rfl) ?_); simp only [Act.put, List.setIfInBounds_toArray, List.set_cons_succ, List.set_cons_zero]) | ((refine rd (by rfl) (ex_load1 57 Tryz.isAgg57 rfl rfl ((unhide LL).get 2 rfl) rfl) ?_); simp only [Act.put, List.setIfInBounds_toArray, List.set_cons_succ, List.set_cons_zero]) | ((refine rd (by rfl) (ex_neI rfl rfl rfl hfi) ?_); simp only [Act.put, List.setIfInBounds_toArray, List.set_cons_succ, List.set_cons_zero]) | ((refine rd (by rfl) (ex_neT rfl rfl rfl hlo) ?_); simp only [Act.put, List.setIfInBounds_toArray, List.set_cons_succ, List.set_cons_zero]) | ((refine rd (by rfl) (ex_ltI2 rfl rfl rfl hng) ?_); simp only [Act.put, List.setIfInBounds_toArray, List.set_cons_succ, List.set_cons_zero])))
            refine (find_any SB sb b.ps p.k _ ((unhide HB).fr (unhide LL).fr) (unhide HZb)).mono ?_
            rintro e Z5 ⟨rfl, hZ5⟩
            replace LL := hide ((unhide LL).on hZ5)
            clear hZ5
            go_wp2_with (first | go_skip | ((with_reducible show wpList _ _ _ _ _ _); first | ((refine rd (by rfl) (ex_load1 32 Tryz.isAgg32 rfl rfl ((unhide LL).get 0 rfl) rfl) ?_); simp only [Act.put, List.setIfInBounds_toArray, List.set_cons_succ, List.set_cons_zero]) | ((refine rd (by rfl) (ex_load1 32 Tryz.isAgg32 rfl rfl ((unhide LL).get 1 rfl) rfl) ?_); simp only [Act.put, List.setIfInBounds_toArray, List.set_cons_succ, List.set_cons_zero]) | ((refine rd (by rfl) (ex_lenG 32 61 Tryz.underlying32 rfl rfl) ?_); simp only [Act.put, List.setIfInBounds_toArray, List.set_cons_succ, List.set_cons_zero]) | ((refine rd (by rfl) (ex_indexA 32 20 i unPs idPs rfl rfl (unhide HSA) rfl (unhide HLT)) ?_); simp only [Act.put, List.setIfInBounds_toArray, List.set_cons_succ, List.set_cons_zero]) | ((refine rd (by rfl) (ex_loadR (vs := p.cs) 61 20 rwP szP rfl rfl (unhide HRG _ (unhide LL).fr) rfl) ?_); simp only [Act.put, List.setIfInBounds_toArray, List.set_cons_succ, List.set_cons_zero]) | ((refine alG 61 (zeroP.cs) (by rfl) rfl (fun w => by kernel_rfl) (Nat.succ_pos _) (show Hq w _ [] [(B1, b.cs SB sb), (B2, a.cs SA sa)] from unhide LL) ?_); intro X3 B3 hE3 L3 hb3; have hB3 := hide (Nat.le_trans (unhide LL).fr.size (Nat.le_of_eq hE3.symm)); replace LL := hide L3; clear L3 hb3 hE3; simp only [Act.put, List.setIfInBounds_toArray, List.set_cons_succ, List.set_cons_zero]) | ((refine st (vs := p.cs) 2 61 (by rfl) rfl rfl rfl rfl (pcs_one p) (szP) (unhide LL) rfl (by simp [cput, PR.cs, SH.cs, VV.cs, KK.cs, DD.cs, CO.cs, DL.cs, zeroP, zeroS, zeroD, zeroV]) (Or.inr (unhide hB3)) ?_); intro X4 L4 hf4 hs4; replace LL := hide L4; clear L4 hf4 hs4; simp only [Act.put, List.setIfInBounds_toArray, List.set_cons_succ, List.set_cons_zero]) | ((refine rd (by rfl) (ex_loadN (vs := p.k.cs) 56 2 rwK szK rfl rfl ((unhide LL).get 2 rfl) rfl rfl) ?_); simp only [Act.put, List.setIfInBounds_toArray, List.set_cons_succ, List.set_cons_zero]) | ((refine rd (by rfl) (ex_load1 57 Tryz.isAgg57 rfl rfl ((unhide LL).get 2 rfl) rfl) ?_); simp only [Act.put, List.setIfInBounds_toArray, List.set_cons_succ, List.set_cons_zero]) | ((refine rd (by rfl) (ex_neI rfl rfl rfl hfi) ?_); simp only [Act.put, List.setIfInBounds_toArray, List.set_cons_succ, List.set_cons_zero]) | ((refine rd (by rfl) (ex_neT rfl rfl rfl hlo) ?_); simp only [Act.put, List.setIfInBounds_toArray, List.set_cons_succ, List.set_cons_zero]) | ((refine rd (by rfl) (ex_ltI2 rfl rfl rfl hng) ?_); simp only [Act.put, List.setIfInBounds_toArray, List.set_cons_succ, List.set_cons_zero])))
            replace LL := hide (Hq.left (L := [(B1, b.cs SB sb), (B2, a.cs SA sa)]) (unhide LL))
            go_roundg (b.ps.length - (i + 1))
            case measure => have := unhide HLT; omega
            case rel => exact ⟨i + 1, by go_num, by have := unhide HLT; omega, by omega, HYE, LL⟩
        · obtain rfl : i = b.ps.length := by omega
          clear hlt hil
          have HR0 : Hid (RuleP b a 0) := hide (.inl ⟨rfl, no6 (unhide HN5) (unhide HAL)⟩)
          go_wp2_with (first | go_skip | ((with_reducible show wpList _ _ _ _ _ _); first | ((refine rd (by rfl) (ex_load1 32 Tryz.isAgg32 rfl rfl ((unhide LL).get 0 rfl) rfl) ?_); simp only [Act.put, List.setIfInBounds_toArray, List.set_cons_succ, List.set_cons_zero]) | ((refine rd (by rfl) (ex_lenG 32 61 Tryz.underlying32 rfl rfl) ?_); simp only [Act.put, List.setIfInBounds_toArray, List.set_cons_succ, List.set_cons_zero])))
          go_ret
          exact ⟨_, rfl, unhide HR0, (unhide LL).fr.below⟩
  · have HR := hide (r1 hc)
    go_wp2_with (first | go_skip | ((with_reducible show wpList _ _ _ _ _ _); first | ((refine bx 34 (b.cs SB sb) (by rfl) rfl rfl rfl (Nat.succ_pos _) (show Hq w _ [] [] from unhide LL) ?_); intro X1 B1 hE1 L1 hb1; replace LL := hide L1; clear L1 hb1 hE1; simp only [Act.put, List.setIfInBounds_toArray, List.set_cons_succ, List.set_cons_zero]) | ((refine bx 34 (a.cs SA sa) (by rfl) rfl rfl rfl (Nat.succ_pos _) (unhide LL) ?_); intro X2 B2 hE2 L2 hb2; replace LL := hide L2; clear L2 hb2 hE2; simp only [Act.put, List.setIfInBounds_toArray, List.set_cons_succ, List.set_cons_zero]) | ((refine rd (by rfl) (ex_load1 3 Tryz.isAgg3 rfl rfl ((unhide LL).get 0 rfl) rfl) ?_); simp only [Act.put, List.setIfInBounds_toArray, List.set_cons_succ, List.set_cons_zero]) | ((refine rd (by rfl) (ex_load1 3 Tryz.isAgg3 rfl rfl ((unhide LL).get 1 rfl) rfl) ?_); simp only [Act.put, List.setIfInBounds_toArray, List.set_cons_succ, List.set_cons_zero]) | ((refine rd (by rfl) (ex_load1 4 Tryz.isAgg4 rfl rfl ((unhide LL).get 0 rfl) (unhide H6)) ?_); simp only [Act.put, List.setIfInBounds_toArray, List.set_cons_succ, List.set_cons_zero]) | ((refine rd (by rfl) (ex_load1 4 Tryz.isAgg4 rfl rfl ((unhide LL).get 1 rfl) (unhide H6b)) ?_); simp only [Act.put, List.setIfInBounds_toArray, List.set_cons_succ, List.set_cons_zero]) | ((refine rd (by rfl) (ex_loadN (vs := b.p.cs) 31 5 rwV szV rfl rfl ((unhide LL).get 0 rfl) rfl rfl) ?_); simp only [Act.put, List.setIfInBounds_toArray, List.set_cons_succ, List.set_cons_zero]) | ((refine rd (by rfl) (ex_loadN (vs := a.p.cs) 31 5 rwV szV rfl rfl ((unhide LL).get 1 rfl) rfl rfl) ?_); simp only [Act.put, List.setIfInBounds_toArray, List.set_cons_succ, List.set_cons_zero]) | ((refine rd (by rfl) (ex_load1 32 Tryz.isAgg32 rfl rfl ((unhide LL).get 0 rfl) rfl) ?_); simp only [Act.put, List.setIfInBounds_toArray, List.set_cons_succ, List.set_cons_zero]) | ((refine rd (by rfl) (ex_load1 32 Tryz.isAgg32 rfl rfl ((unhide LL).get 1 rfl) rfl) ?_); simp only [Act.put, List.setIfInBounds_toArray, List.set_cons_succ, List.set_cons_zero]) | ((refine rd (by rfl) (ex_lenG 32 61 Tryz.underlying32 rfl rfl) ?_); simp only [Act.put, List.setIfInBounds_toArray, List.set_cons_succ, List.set_cons_zero]) | ((refine rd (by rfl) (ex_neI rfl rfl rfl hc) ?_); simp only [Act.put, List.setIfInBounds_toArray, List.set_cons_succ, List.set_cons_zero])))
    go_ret
    exact ⟨_, rfl, unhide HR, (unhide LL).fr.below⟩
end Go.Proofs.YtcflglloopgieaaGreatDoor

/-! Kd -/
namespace Go.Proofs.YtcflglloopgieaaGreatDoor
open Go Go.Proofs Go.Maps Go.RowKit FM
set_option linter.unusedSimpArgs false
set_option linter.unusedVariables false
set_option maxHeartbeats 1000000
theorem ex_geI2 {o : Oper} {a : Act} {w : World} {x y : Operand} {n m : Int} {r : Bool} (ho : o.op = .binOp .geq 3 x y 3) (hx : a.eval x = .int .i64 n) (hc : a.eval y = .int .i64 m) (h : decide (m ≤ n) = r) : (execOp a.eval o).run Tryz.prog w = .ok (.value (.bool r)) w := by
  unfold execOp
  simp only [ho, hx, hc]
  simp [go_sem, eqGuard, h]
theorem rule_br {bs ns : List SH} {i : Nat} {b a : SH} {r : Int} (hb : bs[i]? = some b) (ha : ns[i]? = some a) (h : RuleP b a r) (hc : NoC bs ns i) : (r = 0 ∧ NoC bs ns (i + 1)) ∨ (r ≠ 0 ∧ BrP bs ns ((i : Int) + 1) r) := by
  have e := co_same (c := rulC b a) hb (.inr ⟨rfl, ha⟩)
  rcases h with ⟨rfl, hn⟩ | ⟨j, h0, hj, rfl, hr, hn⟩
  · refine .inl ⟨rfl, fun q hq => ?_⟩
    rcases Nat.lt_succ_iff_lt_or_eq.1 hq with h1 | rfl
    · exact hc q h1
    · exact fun j hj => (e j) ▸ hn j hj
  · exact .inr ⟨by omega, .inr ⟨i, j, (List.getElem?_eq_some_iff.1 hb).1, hj, rfl, rfl, (e j) ▸ hr, fun q hq => (e q) ▸ hn q hq, hc⟩⟩
theorem lost_br {bs ns : List SH} {i : Nat} (hi : i < bs.length) (hl : ns.length ≤ i) (hc : NoC bs ns i) : BrP bs ns ((i : Int) + 1) 1 :=
  .inr ⟨i, 0, hi, by omega, rfl, rfl, by show (ns[i]?).isNone = true; rw [List.getElem?_eq_none hl]; rfl, NoR.zero _, hc⟩
set_option maxHeartbeats 4000000 in
set_option maxRecDepth 100000 in
theorem ref_broken (A B : Option Addr) (ca cb : Nat) (bs ns : List SH) (w : World) (hA : ReadsS w A bs) (hB : ReadsS w B ns) (hz : bs.length ≤ 100000) : Calls Tryz.prog 8 #[.slice A bs.length ca, .slice B ns.length cb] w (BkPost w bs ns) := by
  have LL := hide (Hq.nil w [])
  have HA := hide hA
  have HB := hide hB
  have HZ := hide hz
  clear hA hB hz
  go_enter Tryz.func8, Tryz.ntmps8
  go_wp2_with (first | go_skip | ((with_reducible show wpList _ _ _ _ _ _); first | ((refine rd (by rfl) (ex_lenG 22 34 Tryz.underlying22 rfl rfl) ?_); simp only [Act.put, List.setIfInBounds_toArray, List.set_cons_succ, List.set_cons_zero])))
  go_loopg [6] bs.length (fun gm s6 wr => ∃ i : Nat, s6 = .int .i64 (i : Nat) ∧ i ≤ bs.length ∧ bs.length - i ≤ gm ∧ Hid (NoC bs ns i) ∧ Hid (Hq w wr [] []))
  case atStart => exact ⟨0, rfl, by omega, by omega, hide (NoC.zero bs ns), LL⟩
  case round =>
    clear LL
    obtain ⟨i, rfl, hil, hgm, HN, LL⟩ := hrel
    by_cases hlt : i < bs.length
    · have dlt : decide ((i : Int) < (bs.length : Int)) = true := decide_eq_true (by omega)
      have hw1 : IntKind.i64.wrap ((i : Int) + 1) = (i : Int) + 1 := by have := unhide HZ; rw [IntKind.wrap_i64]; omega
      by_cases hl2 : ns.length ≤ i
      · have hge : decide ((ns.length : Int) ≤ (i : Int)) = true := decide_eq_true (by omega)
        have HBR := hide (lost_br hlt hl2 (unhide HN))
        clear hl2 hil
        go_wp2_with (first | go_skip | ((with_reducible show wpList _ _ _ _ _ _); first | ((refine rd (by rfl) (ex_lenG 22 34 Tryz.underlying22 rfl rfl) ?_); simp only [Act.put, List.setIfInBounds_toArray, List.set_cons_succ, List.set_cons_zero]) | ((refine rd (by rfl) (ex_geI2 rfl rfl rfl hge) ?_); simp only [Act.put, List.setIfInBounds_toArray, List.set_cons_succ, List.set_cons_zero]) | ((refine rd (by rfl) (ex_addI rfl rfl rfl hw1) ?_); simp only [Act.put, List.setIfInBounds_toArray, List.set_cons_succ, List.set_cons_zero])))
        go_ret2
        exact ⟨_, _, rfl, unhide HBR, (unhide LL).fr.below⟩
      · have hge : decide ((ns.length : Int) ≤ (i : Int)) = false := decide_eq_false (by omega)
        have hlt2 : i < ns.length := by omega
        obtain ⟨s, hs⟩ : ∃ s, bs[i]? = some s := ⟨_, List.getElem?_eq_getElem hlt⟩
        obtain ⟨t, ht⟩ : ∃ t, ns[i]? = some t := ⟨_, List.getElem?_eq_getElem hlt2⟩
        obtain ⟨hx64, hsl, b, off, SB, sb, hAe, hb, hrp, hrg⟩ := (unhide HA) i s hs
        obtain ⟨ht64, htl, b2, off2, SA, sa, hBe, hb2, hrp2, hrg2⟩ := (unhide HB) i t ht
        have hRU := fun (X : World) (hX : Fr w X []) => ref_rule s t SB SA sb sa X (hrp.fr hX) (hrp2.fr hX) hsl htl hx64 ht64
        unfold SH.agg at hRU
        have HLT := hide hlt
        clear hil hl2
        go_wp2_with (first | go_skip | ((with_reducible show wpList _ _ _ _ _ _); first | ((refine rd (by rfl) (ex_lenG 22 34 Tryz.underlying22 rfl rfl) ?_); simp only [Act.put, List.setIfInBounds_toArray, List.set_cons_succ, List.set_cons_zero]) | ((refine rd (by rfl) (ex_geI2 rfl rfl rfl hge) ?_); simp only [Act.put, List.setIfInBounds_toArray, List.set_cons_succ, List.set_cons_zero])))
        have hq0 : Hq w _ [] [] := (unhide LL).drew
        refine wp_region_held_drew (P := Tryz.prog) (S := fun X => Hq w X [] []) (by kernel_rfl) hq0 (fun hS0 => ?_)
        refine gsem 0 (some 20) (.slice A bs.length ca) rfl (by kernel_rfl) (by kernel_rfl) (by kernel_rfl) (fun _ _ _ h => h) (by kernel_rfl) (by kernel_rfl) (fun _ _ => by kernel_rfl) hq0 ?_
        simp only [Act.put, List.setIfInBounds_toArray, List.set_cons_succ, List.set_cons_zero]
        refine gsem 1 (some 21) (.int .i64 (i : Nat)) rfl (by kernel_rfl) (by kernel_rfl) (by kernel_rfl) (fun _ _ _ h => h) (by kernel_rfl) (by kernel_rfl) (fun _ _ => by kernel_rfl) hq0 ?_
        simp only [Act.put, List.setIfInBounds_toArray, List.set_cons_succ, List.set_cons_zero]
        refine gsem 2 (some 22) (.pointer (some ⟨b, off + i * 8, none⟩)) rfl (by kernel_rfl) (by kernel_rfl) (by kernel_rfl) (fun _ _ _ h => h) (by kernel_rfl) (by kernel_rfl) (fun X hX => ex_indexA 22 8 i unSs idSs rfl rfl hAe rfl hlt) hq0 ?_
        simp only [Act.put, List.setIfInBounds_toArray, List.set_cons_succ, List.set_cons_zero]
        refine gsem 3 (some 23) (.agg (s.cs SB sb).toArray) rfl (by kernel_rfl) (by kernel_rfl) (by kernel_rfl) (fun _ _ _ h => h) (by kernel_rfl) (by kernel_rfl) (fun X hX => ex_loadR (vs := s.cs SB sb) 34 8 rwS szS rfl rfl (rangeAt_fr hrg hb hX.fr) rfl) hq0 ?_
        simp only [Act.put, List.setIfInBounds_toArray, List.set_cons_succ, List.set_cons_zero]
        refine gsem 4 (some 24) (.slice B ns.length cb) rfl (by kernel_rfl) (by kernel_rfl) (by kernel_rfl) (fun _ _ _ h => h) (by kernel_rfl) (by kernel_rfl) (fun _ _ => by kernel_rfl) hq0 ?_
        simp only [Act.put, List.setIfInBounds_toArray, List.set_cons_succ, List.set_cons_zero]
        refine gsem 5 (some 25) (.int .i64 (i : Nat)) rfl (by kernel_rfl) (by kernel_rfl) (by kernel_rfl) (fun _ _ _ h => h) (by kernel_rfl) (by kernel_rfl) (fun _ _ => by kernel_rfl) hq0 ?_
        simp only [Act.put, List.setIfInBounds_toArray, List.set_cons_succ, List.set_cons_zero]
        refine gsem 6 (some 26) (.pointer (some ⟨b2, off2 + i * 8, none⟩)) rfl (by kernel_rfl) (by kernel_rfl) (by kernel_rfl) (fun _ _ _ h => h) (by kernel_rfl) (by kernel_rfl) (fun X hX => ex_indexA 22 8 i unSs idSs rfl rfl hBe rfl hlt2) hq0 ?_
        simp only [Act.put, List.setIfInBounds_toArray, List.set_cons_succ, List.set_cons_zero]
        refine gsem 7 (some 27) (.agg (t.cs SA sa).toArray) rfl (by kernel_rfl) (by kernel_rfl) (by kernel_rfl) (fun _ _ _ h => h) (by kernel_rfl) (by kernel_rfl) (fun X hX => ex_loadR (vs := t.cs SA sa) 34 8 rwS szS rfl rfl (rangeAt_fr hrg2 hb2 hX.fr) rfl) hq0 ?_
        simp only [Act.put, List.setIfInBounds_toArray, List.set_cons_succ, List.set_cons_zero]
        refine wpAnyH_ready (rs := [8]) (by kernel_rfl) (by simp) (gcallR 8 (some 28) rfl (by kernel_rfl) (by kernel_rfl) (by kernel_rfl) (hRU _ hq0.fr) ?_ AllReadyH.nil)
        rintro e Y8 ⟨r, rfl, hr, hY8⟩
        have hq08 := Hq.on hq0 hY8
        refine ⟨_, rfl, hq08, ?_⟩
        simp only [Act.put, List.setIfInBounds_toArray, List.set_cons_succ, List.set_cons_zero]
        refine gsem 9 (some 7) (.int .i64 r) rfl (by kernel_rfl) (by kernel_rfl) (by kernel_rfl) (fun _ _ _ h => h) (by kernel_rfl) (by kernel_rfl) (fun _ _ => by kernel_rfl) hq08 ?_
        simp only [Act.put, List.setIfInBounds_toArray, List.set_cons_succ, List.set_cons_zero]
        refine wpAnyH_done (by kernel_rfl) ?_ _
        try simp only [Act.put, List.setIfInBounds_toArray, List.set_cons_succ, List.set_cons_zero]
        replace LL := hide hq08
        have HRB := rule_br hs ht hr (unhide HN)
        clear hq0 hq08 hS0 hY8 hRU hs ht hb hrg hb2 hrg2 hlt hlt2 hAe hBe hrp hrp2 hx64 hsl ht64 htl hr
        rcases HRB with ⟨hr0, hnc⟩ | ⟨hr0, hbr⟩
        · subst hr0
          have HNC := hide hnc
          have hne : ((0 : Int) != 0) = false := rfl
          clear hnc
          go_wp2_with (first | go_skip | ((with_reducible show wpList _ _ _ _ _ _); first | ((refine rd (by rfl) (ex_lenG 22 34 Tryz.underlying22 rfl rfl) ?_); simp only [Act.put, List.setIfInBounds_toArray, List.set_cons_succ, List.set_cons_zero]) | ((refine rd (by rfl) (ex_neI rfl rfl rfl hne) ?_); simp only [Act.put, List.setIfInBounds_toArray, List.set_cons_succ, List.set_cons_zero])))
          go_roundg (bs.length - (i + 1))
          case measure => have := unhide HLT; omega
          case rel => exact ⟨i + 1, by go_num, by have := unhide HLT; omega, by omega, HNC, LL⟩
        · have HBR := hide hbr
          have hne : (r != 0) = true := by simp [hr0]
          clear hbr hr0
          go_wp2_with (first | go_skip | ((with_reducible show wpList _ _ _ _ _ _); first | ((refine rd (by rfl) (ex_lenG 22 34 Tryz.underlying22 rfl rfl) ?_); simp only [Act.put, List.setIfInBounds_toArray, List.set_cons_succ, List.set_cons_zero]) | ((refine rd (by rfl) (ex_neI rfl rfl rfl hne) ?_); simp only [Act.put, List.setIfInBounds_toArray, List.set_cons_succ, List.set_cons_zero]) | ((refine rd (by rfl) (ex_addI rfl rfl rfl hw1) ?_); simp only [Act.put, List.setIfInBounds_toArray, List.set_cons_succ, List.set_cons_zero])))
          go_ret2
          exact ⟨_, _, rfl, unhide HBR, (unhide LL).fr.below⟩
    · obtain rfl : i = bs.length := by omega
      clear hlt hil
      have HBR : Hid (BrP bs ns 0 0) := hide (.inl ⟨rfl, rfl, unhide HN⟩)
      go_wp2_with (first | go_skip | ((with_reducible show wpList _ _ _ _ _ _); first | ((refine rd (by rfl) (ex_lenG 22 34 Tryz.underlying22 rfl rfl) ?_); simp only [Act.put, List.setIfInBounds_toArray, List.set_cons_succ, List.set_cons_zero])))
      go_ret2
      exact ⟨_, _, rfl, unhide HBR, (unhide LL).fr.below⟩
end Go.Proofs.YtcflglloopgieaaGreatDoor
