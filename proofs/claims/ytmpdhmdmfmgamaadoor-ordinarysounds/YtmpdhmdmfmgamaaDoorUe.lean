import Derived.Test.YtmpdhmdmfmgamaaDoorUd
import Derived.Test.YtmpdhmdmfmgamaaDoorVo
import Derived.Deep.Slices
import Derived.SizedLaws

/-! Os -/
namespace Go.Proofs.YtmpdhmdmfmgamaaDoor
open Go Go.Proofs Go.Maps Go.RowKit FM
set_option linter.unusedSimpArgs false
set_option linter.unusedVariables false
set_option maxHeartbeats 1000000
theorem ex_gtr {o : Oper} {a : Act} {w : World} {x y : Operand} {n m : Int} (b : Bool) (ho : o.op = .binOp .gtr 3 x y 3) (hx : a.eval x = .int .i64 n) (hc : a.eval y = .int .i64 m) (h : decide (m < n) = b) : (execOp a.eval o).run Tryd.prog w = .ok (.value (.bool b)) w := by
  subst h
  unfold execOp
  simp only [ho, hx, hc]
  simp [go_sem, eqGuard]
set_option maxHeartbeats 8000000 in
set_option maxRecDepth 100000 in
theorem law3 (A : Option Addr) (cap : Nat) (l : List SH) (w : World) (hR : ReadsT w A l) (hT : Lib.Utf8Tabs 1 2 w) : Calls Tryd.prog 3 #[.slice A l.length cap] w fun e w' => e = .returned (.bool true) ∧ Below w.heap.size w w' := by
  have HR := hide hR
  have HT := hide hT
  have HF := hide (Fr.refl w [])
  by_cases h300 : l.length ≤ 300
  · have hd : decide ((300 : Int) < (l.length : Int)) = false := decide_eq_false (by omega)
    have HN := hide h300
    clear h300 hR hT
    go_enter Tryd.func3, Tryd.ntmps3
    go_wp2_with (first | go_skip | ((with_reducible show wpList _ _ _ _ _ _); first | ((refine rd (by rfl) (ex_lenG 22 28 Tryd.underlying22 rfl rfl) ?_); simp only [Act.put, List.setIfInBounds_toArray, List.set_cons_succ, List.set_cons_zero]) | ((refine rd (by rfl) (ex_gtr false rfl rfl rfl hd) ?_); simp only [Act.put, List.setIfInBounds_toArray, List.set_cons_succ, List.set_cons_zero])))
    go_loopg [3, 4] l.length (fun gm s3 s4 wr => ∃ (i : Nat) (cl : List CE), s4 = .int .i64 (i : Nat) ∧ i ≤ l.length ∧ l.length - i ≤ gm ∧ cl.length = i ∧ Hid (CRow w wr l s3 cl))
    case atStart => exact ⟨0, [], rfl, by omega, by omega, rfl, hide (CRow.nil w l)⟩
    case round =>
      clear HF
      obtain ⟨i, cl, rfl, hil, hgm, hcl, HC⟩ := hrel
      by_cases hlt : i < l.length
      · have dlt : decide ((i : Int) < (l.length : Int)) = true := decide_eq_true (by omega)
        have hw1 : IntKind.i64.wrap ((i : Int) + 1) = (i : Int) + 1 := by have := unhide HN; rw [IntKind.wrap_i64]; omega
        obtain ⟨s, hs⟩ : ∃ s, l[i]? = some s := ⟨_, List.getElem?_eq_getElem hlt⟩
        obtain ⟨hx64, hz, b, off, SA, sc, hA, hb, hps, hrg, hc0⟩ := (unhide HR) i s hs
        subst hA
        have HA2 : Hid (∀ X, Fr w X [] → X.rangeAt b (off + i * 8) (s.cs SA sc)) := hide (fun X hX => rangeAt_fr hrg hb hX)
        have HPS := hide hps
        have HZ := hide hz
        have HC0 := hide hc0
        have HLT := hide hlt
        have HS : Hid (l[cl.length]? = some s) := hide (by rw [hcl]; exact hs)
        have HOKP : Hid (∀ p ∈ s.ps, OkP p) := hide (fun p hp => by
          obtain ⟨j, hj⟩ := List.getElem?_of_mem hp
          exact (hps j p hj).1)
        have HF := hide (unhide HC).fr
        have LL := hide (Hq.nil wr [])
        clear hb hrg hps hz hc0 hx64 hs hlt hil
        go_wp2_with (first | go_skip | ((with_reducible show wpList _ _ _ _ _ _); first | ((refine rd (by rfl) (ex_lenG 22 28 Tryd.underlying22 rfl rfl) ?_); simp only [Act.put, List.setIfInBounds_toArray, List.set_cons_succ, List.set_cons_zero]) | ((refine rd (by rfl) (ex_indexG 22 8 i und22 idx22 rfl rfl rfl (unhide HLT)) ?_); simp only [Act.put, List.setIfInBounds_toArray, List.set_cons_succ, List.set_cons_zero]) | ((refine rd (by rfl) (ex_loadR (vs := s.cs SA sc) 28 8 row28 siz28 rfl rfl (unhide HA2 _ ((unhide HF).trans (unhide LL).fr (by simp))) rfl) ?_); simp only [Act.put, List.setIfInBounds_toArray, List.set_cons_succ, List.set_cons_zero]) | ((refine alG 28 (zeroS.cs none 0) (by rfl) rfl (fun w => by kernel_rfl) (Nat.succ_pos _) (unhide LL) ?_); intro X5 B5 hE5 L5 hb5; have hB5 := hide (Nat.le_trans (unhide LL).fr.size (Nat.le_of_eq hE5.symm)); replace LL := hide L5; clear L5 hb5 hE5; simp only [Act.put, List.setIfInBounds_toArray, List.set_cons_succ, List.set_cons_zero]) | ((refine st (vs := s.cs SA sc) 0 28 (by rfl) rfl rfl rfl rfl (shcs_one s SA sc) (siz28) (unhide LL) rfl (by simp [cput, PR.cs, SH.cs, VV.cs, KK.cs, DD.cs]) (Or.inr (unhide hB5)) ?_); intro X6 L6 hf6 hs6; replace LL := hide L6; clear L6 hf6 hs6; simp only [Act.put, List.setIfInBounds_toArray, List.set_cons_succ, List.set_cons_zero]) | ((refine noneG 26 46 20 wr.heap.size (unhide LL).fr.size (by rfl) rfl none26 ?_); intro X7 B7 hE7 hO7 hb7; have HO : Hid (X7.ownsRow wr.heap.size 46 20 (.slice (some ⟨B7, 0, none⟩) 0 0) 0 [] ∧ B5 ≠ B7 ∧ wr.heap.size ≤ B7) := hide ⟨hO7, Nat.ne_of_lt (Nat.lt_of_lt_of_le ((unhide LL).lt _ (List.mem_singleton.2 rfl)) (Nat.le_of_eq hE7.symm)), Nat.le_trans (unhide LL).fr.size (Nat.le_of_eq hE7.symm)⟩; replace LL := hide ((unhide LL).on hb7); clear hE7 hO7 hb7; simp only [Act.put, List.setIfInBounds_toArray, List.set_cons_succ, List.set_cons_zero]) | ((refine rd (by rfl) (ex_loadC 26 Tryd.isAgg26 rfl rfl ((unhide HA2 _ ((unhide HF).trans (unhide LL).fr (by simp))) 7 _ rfl)) ?_); simp only [Act.put, List.setIfInBounds_toArray, List.set_cons_succ, List.set_cons_zero]) | ((refine app_P (l := s.ps) (av := B5) (base := wr.heap.size) (by rfl) rfl rfl rfl (unhide HO).1 ((unhide HPS).fr ((unhide HF).trans (unhide LL).fr (by simp))) (unhide HC0) (unhide HZ) (unhide LL).fr.size (Ne.symm (unhide HO).2.1) ((unhide LL).lt _ (List.mem_singleton.2 rfl)) ?_); intro A8 c8 X8 hO8 hf8 hNB8; have LL8 := (unhide LL).step hf8 (fun b hb => .inr (by obtain rfl : b = B7 := (by simpa using hb); exact (unhide HO).2.2)) (fun q hq => by obtain rfl : q = _ := List.mem_singleton.1 hq; intro hm; exact (unhide HO).2.1 (by simpa using hm)); have HNB : Hid (∀ g, (Value.slice A8 s.ps.length c8).ownBlock = some g → g ∉ [B5]) := hide (fun g hg hm => absurd (hNB8 g hg) (by obtain rfl : g = B5 := (by simpa using hm); exact fun h => h rfl)); replace HO := hide hO8; replace LL := hide LL8; clear LL8 hO8 hf8; simp only [Act.put, List.setIfInBounds_toArray, List.set_cons_succ, List.set_cons_zero]) | ((refine st (vs := [.slice A8 s.ps.length c8]) 0 26 (by rfl) rfl rfl rfl rfl (by simp [Value.oneCell']) siz26 (unhide LL) rfl (by simp [cput, SH.cs, VV.cs, zeroS]) (Or.inr (unhide hB5)) ?_); intro X9 L9 hf9 hs9; have HO9 : Hid (X9.ownsRow wr.heap.size 46 20 (.slice A8 s.ps.length c8) s.ps.length (flatP s.ps) ∧ True) := hide ⟨own_blk (unhide HO) (fun g hg => hf9.block g (World.ownsRow.lt (unhide HO) g hg).2 (unhide HNB g hg)), trivial⟩; replace LL := hide L9; clear L9 hf9 hs9 HO; simp only [Act.put, List.setIfInBounds_toArray, List.set_cons_succ, List.set_cons_zero]) | ((refine rd (by rfl) (ex_loadN (vs := s.cs A8 c8) 28 8 row28 siz28 rfl rfl ((unhide LL).get 0 rfl) rfl rfl) ?_); simp only [Act.put, List.setIfInBounds_toArray, List.set_cons_succ, List.set_cons_zero]) | ((refine build_any (z := zeroS.agg none 0) (size := 8) (bytes := 88) (cs := s.cs A8 c8) (by rfl) rfl rfl Tryd.underlying22 inf28 (by omega) rfl rfl (by omega) (unhide LL) ?_); intro X10 B10 hE10 L10 hb10; replace HO9 := hide (And.intro (own_fr (unhide HO9).1 (Fr.of_below hb10 [])) trivial); replace LL := hide L10; clear L10 hb10 hE10; simp only [Act.put, List.setIfInBounds_toArray, List.set_cons_succ, List.set_cons_zero]) | ((with_reducible refine append_any (z := zeroS.agg none 0) (size := 8) (bytes := 88) (n := cl.length) (m := 1) (base := w.heap.size) (news := s.cs A8 c8) (by rfl) rfl rfl rfl Tryd.underlying22 inf28 rfl (by omega) (own_fr (unhide HC).own (unhide LL).fr) ((unhide LL).get 1 rfl) rfl (shcs_one s A8 c8) (by have := unhide HN; have := unhide HLT; omega) (by omega) (Nat.le_trans (unhide HF).size (unhide LL).fr.size) ?_); intro A11 c11 X11 hO11 hg11 hF11; have HNEW : Hid (CRow w X11 l (.slice A11 (cl.length + 1) c11) (cl ++ [⟨s, A8, c8⟩])) := hide (CRow.snoc ((unhide HC).on (unhide LL).fr) hO11 hg11 hF11 (unhide HS) (own_readsP (unhide HOKP) (unhide HO9).1) (fun b o hb => by subst hb; have h1 := World.ownsRow.lt (unhide HO9).1 b rfl; refine ⟨h1.2, fun h2 => ?_⟩; have h3 := World.ownsRow.lt (unhide HC).own b h2; omega)); clear hO11 hg11 hF11 HO9 LL; simp only [Act.put, List.setIfInBounds_toArray, List.set_cons_succ, List.set_cons_zero])))
        go_roundg (l.length - (i + 1))
        case measure => have := unhide HLT; omega
        case rel => exact ⟨i + 1, cl ++ [⟨s, A8, c8⟩], by go_num, by have := unhide HLT; omega, by omega, by rw [List.length_append, hcl]; rfl, HNEW⟩
      · obtain rfl : i = l.length := by omega
        obtain ⟨w2, hw2⟩ : ∃ w2, w2 = wr := ⟨wr, rfl⟩
        subst hw2
        obtain ⟨Ac, cc, rfl, hRC⟩ := (unhide HC).reads hcl (fun j s hs => ⟨((unhide HR) j s hs).1, ((unhide HR) j s hs).2.1⟩)
        have HRC := hide hRC
        have HF := hide (unhide HC).fr
        have HTw : Hid (Lib.Utf8Tabs 1 2 w2) := hide (tabs_below (unhide HT) (unhide HF).below)
        clear hlt hil hRC
        go_wp2_with (first | go_skip | ((with_reducible show wpList _ _ _ _ _ _); first | ((refine rd (by rfl) (ex_lenG 22 28 Tryd.underlying22 rfl rfl) ?_); simp only [Act.put, List.setIfInBounds_toArray, List.set_cons_succ, List.set_cons_zero])))
        refine (sound4 Ac cc l _ (unhide HRC) (unhide HN) (unhide HTw)).mono ?_
        rintro e X1 ⟨r, rfl, hr, hb⟩
        have HRR := hide hr
        have HF1 : Hid (Fr w2 X1 []) := hide (Fr.of_below hb [])
        clear hr hb
        go_wp2_with fail
        go_loopg [7] l.length (fun gm s7 wq => ∃ i : Nat, s7 = .int .i64 (i : Nat) ∧ i ≤ l.length ∧ l.length - i ≤ gm ∧ Hid (Fr w2 wq []))
        case atStart => exact ⟨0, rfl, by omega, by omega, HF1⟩
        case round =>
          clear HF1
          obtain ⟨i, rfl, hil, hgm2, HQ⟩ := hrel
          by_cases hlt : i < l.length
          · have dlt : decide ((i : Int) < (l.length : Int)) = true := decide_eq_true (by omega)
            have hw1 : IntKind.i64.wrap ((i : Int) + 1) = (i : Int) + 1 := by have := unhide HN; rw [IntKind.wrap_i64]; omega
            obtain ⟨s, hs⟩ : ∃ s, l[i]? = some s := ⟨_, List.getElem?_eq_getElem hlt⟩
            obtain ⟨_, hz, b, off, SA, sc, hA, hb, hps, hrg, _⟩ := (unhide HR) i s hs
            obtain ⟨_, _, b1, off1, S1, c1, hA1, hb1, hps1, hrg1⟩ := (unhide HRC) i s hs
            subst hA hA1
            have HLT := hide hlt
            clear hil
            go_wp2_with (first | go_skip | ((with_reducible show wpList _ _ _ _ _ _); first | ((refine rd (by rfl) (ex_lenG 22 28 Tryd.underlying22 rfl rfl) ?_); simp only [Act.put, List.setIfInBounds_toArray, List.set_cons_succ, List.set_cons_zero])))
            have hq0 : Fr w2 _ [] := (unhide HQ).drew
            refine wp_region_held_drew (P := Tryd.prog) (S := fun X => Fr w2 X []) (by kernel_rfl) hq0 (fun hS0 => ?_)
            refine gsem 0 (some 41) (.slice (some ⟨b1, off1, none⟩) l.length cc) rfl (by kernel_rfl) (by kernel_rfl) (by kernel_rfl) (fun _ _ _ h => h) (by kernel_rfl) (by kernel_rfl) (fun _ _ => by kernel_rfl) hq0 ?_
            simp only [Act.put, List.setIfInBounds_toArray, List.set_cons_succ, List.set_cons_zero]
            refine gsem 1 (some 42) (.int .i64 (i : Nat)) rfl (by kernel_rfl) (by kernel_rfl) (by kernel_rfl) (fun _ _ _ h => h) (by kernel_rfl) (by kernel_rfl) (fun _ _ => by kernel_rfl) hq0 ?_
            simp only [Act.put, List.setIfInBounds_toArray, List.set_cons_succ, List.set_cons_zero]
            refine gsem 2 (some 43) (.pointer (some ⟨b1, off1 + i * 8, none⟩)) rfl (by kernel_rfl) (by kernel_rfl) (by kernel_rfl) (fun _ _ _ h => h) (by kernel_rfl) (by kernel_rfl) (fun X hX => ex_indexG 22 8 i und22 idx22 rfl rfl rfl hlt) hq0 ?_
            simp only [Act.put, List.setIfInBounds_toArray, List.set_cons_succ, List.set_cons_zero]
            refine gsem 3 (some 44) (.agg (s.cs S1 c1).toArray) rfl (by kernel_rfl) (by kernel_rfl) (by kernel_rfl) (fun _ _ _ h => h) (by kernel_rfl) (by kernel_rfl) (fun X hX => ex_loadR (vs := s.cs S1 c1) 28 8 row28 siz28 rfl rfl (rangeAt_fr hrg1 hb1 hX) rfl) hq0 ?_
            simp only [Act.put, List.setIfInBounds_toArray, List.set_cons_succ, List.set_cons_zero]
            refine gsem 4 (some 45) (.slice (some ⟨b, off, none⟩) l.length cap) rfl (by kernel_rfl) (by kernel_rfl) (by kernel_rfl) (fun _ _ _ h => h) (by kernel_rfl) (by kernel_rfl) (fun _ _ => by kernel_rfl) hq0 ?_
            simp only [Act.put, List.setIfInBounds_toArray, List.set_cons_succ, List.set_cons_zero]
            refine gsem 5 (some 46) (.int .i64 (i : Nat)) rfl (by kernel_rfl) (by kernel_rfl) (by kernel_rfl) (fun _ _ _ h => h) (by kernel_rfl) (by kernel_rfl) (fun _ _ => by kernel_rfl) hq0 ?_
            simp only [Act.put, List.setIfInBounds_toArray, List.set_cons_succ, List.set_cons_zero]
            refine gsem 6 (some 47) (.pointer (some ⟨b, off + i * 8, none⟩)) rfl (by kernel_rfl) (by kernel_rfl) (by kernel_rfl) (fun _ _ _ h => h) (by kernel_rfl) (by kernel_rfl) (fun X hX => ex_indexG 22 8 i und22 idx22 rfl rfl rfl hlt) hq0 ?_
            simp only [Act.put, List.setIfInBounds_toArray, List.set_cons_succ, List.set_cons_zero]
            refine gsem 7 (some 48) (.agg (s.cs SA sc).toArray) rfl (by kernel_rfl) (by kernel_rfl) (by kernel_rfl) (fun _ _ _ h => h) (by kernel_rfl) (by kernel_rfl) (fun X hX => ex_loadR (vs := s.cs SA sc) 28 8 row28 siz28 rfl rfl (rangeAt_fr hrg hb ((unhide HF).trans hX (by simp))) rfl) hq0 ?_
            simp only [Act.put, List.setIfInBounds_toArray, List.set_cons_succ, List.set_cons_zero]
            refine wpAnyH_ready (rs := [8]) (by kernel_rfl) (by simp) (gcallR 8 (some 49) rfl (by kernel_rfl) (by kernel_rfl) (by kernel_rfl) (same5 s S1 SA c1 sc _ (hps1.fr hq0) (hps.fr ((unhide HF).trans hq0 (by simp))) hz) ?_ AllReadyH.nil)
            rintro e X8 ⟨rfl, hb8⟩
            have hq8 : Fr w2 X8 [] := hq0.on hb8
            refine ⟨_, rfl, hq8, ?_⟩
            simp only [Act.put, List.setIfInBounds_toArray, List.set_cons_succ, List.set_cons_zero]
            refine gsem 9 (some 50) (.bool false) rfl (by kernel_rfl) (by kernel_rfl) (by kernel_rfl) (fun _ _ _ h => h) (by kernel_rfl) (by kernel_rfl) (fun _ _ => by kernel_rfl) hq8 ?_
            simp only [Act.put, List.setIfInBounds_toArray, List.set_cons_succ, List.set_cons_zero]
            refine wpAnyH_done (by kernel_rfl) ?_ _
            try simp only [Act.put, List.setIfInBounds_toArray, List.set_cons_succ, List.set_cons_zero]
            replace HQ := hide hq8
            clear hq0 hq8 hS0 hb8 hz hb hps hrg hb1 hps1 hrg1 hs hlt
            go_wp2
            go_roundg (l.length - (i + 1))
            case measure => have := unhide HLT; omega
            case rel => exact ⟨i + 1, by go_num, by have := unhide HLT; omega, by omega, HQ⟩
          · obtain rfl : i = l.length := by omega
            have HFQ : Hid (Fr w wr []) := hide ((unhide HF).trans (unhide HQ) (by simp))
            clear hlt hil
            go_wp2_with (first | go_skip | ((with_reducible show wpList _ _ _ _ _ _); first | ((refine rd (by rfl) (ex_lenG 22 28 Tryd.underlying22 rfl rfl) ?_); simp only [Act.put, List.setIfInBounds_toArray, List.set_cons_succ, List.set_cons_zero])))
            refine (refSound6 A cap l _ ((unhide HR).s.fr (unhide HFQ)) (unhide HN)).mono ?_
            rintro e X2 ⟨r2, rfl, hr2, hb⟩
            have he : r = r2 := (unhide HRR).eq hr2 (fun j _ => bad_same (by have := unhide HN; omega) j)
            replace HFQ := hide ((unhide HFQ).on hb)
            clear hr2 hb
            go_wp2_with (first | go_skip | ((with_reducible show wpList _ _ _ _ _ _); first | ((refine rd (by rfl) (ex_eqYes rfl rfl rfl he) ?_); simp only [Act.put, List.setIfInBounds_toArray, List.set_cons_succ, List.set_cons_zero])))
            go_ret
            exact ⟨rfl, (unhide HFQ).below⟩
  · have hd : decide ((300 : Int) < (l.length : Int)) = true := decide_eq_true (by omega)
    clear h300 hR hT
    go_enter Tryd.func3, Tryd.ntmps3
    go_wp2_with (first | go_skip | ((with_reducible show wpList _ _ _ _ _ _); first | ((refine rd (by rfl) (ex_lenG 22 28 Tryd.underlying22 rfl rfl) ?_); simp only [Act.put, List.setIfInBounds_toArray, List.set_cons_succ, List.set_cons_zero]) | ((refine rd (by rfl) (ex_gtr true rfl rfl rfl hd) ?_); simp only [Act.put, List.setIfInBounds_toArray, List.set_cons_succ, List.set_cons_zero])))
    go_ret
    exact ⟨rfl, (unhide HF).below⟩
end Go.Proofs.YtmpdhmdmfmgamaaDoor

/-! Ot -/
namespace Go.Proofs.YtmpdhmdmfmgamaaDoor
open Go.WideShapes Go.ChangeShapes Go Go.Proofs Go.Maps Go.RowKit FM
set_option linter.unusedSimpArgs false
set_option linter.unusedVariables false
set_option maxHeartbeats 1000000
theorem cellsOf44 : Tryd.prog.cellsOf 44 = 18 := by kernel_rfl
theorem cellsOf42 : Tryd.prog.cellsOf 42 = 1 := by kernel_rfl
theorem cellsOf41 : Tryd.prog.cellsOf 41 = 2 := by kernel_rfl
theorem cellsOf46 : Tryd.prog.cellsOf 46 = 20 := by kernel_rfl
theorem cellsOf28 : Tryd.prog.cellsOf 28 = 8 := by kernel_rfl
theorem cellsOf26 : Tryd.prog.cellsOf 26 = 1 := by kernel_rfl
section
variable {H : Type} {enc : TypeId × Value → H} {W : World} {base : Nat} {sp : Nat → Bool} {held : Bool} {m : Nat} {t : TypeId} {x : DataW H × List MemPlace}
set_option maxRecDepth 100000 in
theorem cells_desc' {f0 f1 f2 f3 f4 f5 : Field} {cs : List Value} (hs : Tryd.prog.underlying t = some (.struct #[f0, f1, f2, f3, f4, f5])) (hC : Tryd.prog.cellsOf t = 18)
    (o0 : f0.offset = 0) (o1 : f1.offset = 5) (o2 : f2.offset = 10) (o3 : f3.offset = 15) (o4 : f4.offset = 16) (o5 : f5.offset = 17)
    (t0 : f0.type = 25) (t1 : f1.type = 25) (t2 : f2.type = 25) (t3 : f3.type = 42) (t4 : f4.type = 42) (t5 : f5.type = 42)
    (h : DataW.trod enc Tryd.prog W base sp held m t cs = some x) : ∃ d : DD, cs = d.cs ∧ FD d := by
  obtain ⟨xs, n, _, rfl, hl, hlen, hf⟩ := DataW.trod_struct hs h
  rw [hC] at hl
  match cs, hl with
  | [c0, c1, c2, c3, c4, c5, c6, c7, c8, c9, c10, c11, c12, c13, c14, c15, c16, c17], _ =>
    have h0 := hf 0 _ rfl
    have h1 := hf 1 _ rfl
    have h2 := hf 2 _ rfl
    have h3 := hf 3 _ rfl
    have h4 := hf 4 _ rfl
    have h5 := hf 5 _ rfl
    simp [t0, t1, t2, t3, t4, t5, o0, o1, o2, o3, o4, o5, cellsOf24, cellsOf42] at h0 h1 h2 h3 h4 h5 hlen
    have g : ∀ j, j < 6 → ∃ y, xs[j]? = some y := fun j hj => ⟨_, List.getElem?_eq_getElem (by omega)⟩
    obtain ⟨y0, e0⟩ := g 0 (by omega)
    obtain ⟨y1, e1⟩ := g 1 (by omega)
    obtain ⟨y2, e2⟩ := g 2 (by omega)
    obtain ⟨y3, e3⟩ := g 3 (by omega)
    obtain ⟨y4, e4⟩ := g 4 (by omega)
    obtain ⟨y5, e5⟩ := g 5 (by omega)
    rw [e0] at h0
    rw [e1] at h1
    rw [e2] at h2
    rw [e3] at h3
    rw [e4] at h4
    rw [e5] at h5
    obtain ⟨v, q0, x0, z0, -⟩ := cells_value h0
    obtain ⟨g, q1, x1, -⟩ := cells_value h1
    obtain ⟨s, q2, x2, -⟩ := cells_value h2
    obtain ⟨a, q3, -⟩ := cell_int Tryd.underlying42 h3
    obtain ⟨e, q4, -⟩ := cell_int Tryd.underlying42 h4
    obtain ⟨c, q5, -⟩ := cell_int Tryd.underlying42 h5
    simp only [List.cons.injEq] at q0 q1 q2
    obtain ⟨rfl, rfl, rfl, rfl, rfl, -⟩ := q0
    obtain ⟨rfl, rfl, rfl, rfl, rfl, -⟩ := q1
    obtain ⟨rfl, rfl, rfl, rfl, rfl, -⟩ := q2
    subst q3 q4 q5
    exact ⟨⟨v, g, s, a, e, c⟩, rfl, x0, x1, x2⟩
set_option maxRecDepth 100000 in
theorem cells_desc {cs : List Value} (h : DataW.trod enc Tryd.prog W base sp held m 44 cs = some x) : ∃ d : DD, cs = d.cs ∧ FD d :=
  cells_desc' Tryd.underlying44 cellsOf44 rfl rfl rfl rfl rfl rfl rfl rfl rfl rfl rfl rfl h
set_option maxRecDepth 100000 in
theorem cells_key' {f0 f1 : Field} {cs : List Value} (hs : Tryd.prog.underlying t = some (.struct #[f0, f1])) (hC : Tryd.prog.cellsOf t = 2) (o0 : f0.offset = 0) (o1 : f1.offset = 1) (t0 : f0.type = 9) (t1 : f1.type = 3)
    (h : DataW.trod enc Tryd.prog W base sp held m t cs = some x) : ∃ k : KK, cs = k.cs ∧ OkK k := by
  obtain ⟨xs, n, _, rfl, hl, hlen, hf⟩ := DataW.trod_struct hs h
  rw [hC] at hl
  match cs, hl with
  | [c0, c1], _ =>
    have h0 := hf 0 _ rfl
    have h1 := hf 1 _ rfl
    simp [t0, t1, o0, o1, cellsOf9, cellsOf3] at h0 h1 hlen
    have g : ∀ j, j < 2 → ∃ y, xs[j]? = some y := fun j hj => ⟨_, List.getElem?_eq_getElem (by omega)⟩
    obtain ⟨y0, e0⟩ := g 0 (by omega)
    obtain ⟨y1, e1⟩ := g 1 (by omega)
    rw [e0] at h0
    rw [e1] at h1
    obtain ⟨s, rfl, hs1, -⟩ := cell_string Tryd.underlying9 h0
    obtain ⟨n, rfl, hn1, -⟩ := cell_int Tryd.underlying3 h1
    exact ⟨⟨s, n⟩, rfl, hs1, hn1⟩
set_option maxRecDepth 100000 in
theorem cells_key {cs : List Value} (h : DataW.trod enc Tryd.prog W base sp held m 41 cs = some x) : ∃ k : KK, cs = k.cs ∧ OkK k :=
  cells_key' Tryd.underlying41 cellsOf41 rfl rfl rfl rfl h
set_option maxRecDepth 100000 in
theorem cells_prop {cs : List Value} (h : DataW.trod enc Tryd.prog W base sp held m 46 cs = some x) : ∃ p : PR, cs = p.cs ∧ OkP p := by
  obtain ⟨y0, y1, n, rfl, hl, h0, h1⟩ := trod_struct2 Tryd.underlying46 h
  rw [cellsOf46] at hl
  simp only [cellsOf41, cellsOf44, List.drop_zero] at h0 h1
  obtain ⟨k, hk, hok⟩ := cells_key h0
  obtain ⟨d, hd, hfd⟩ := cells_desc h1
  refine ⟨⟨k, d⟩, ?_, hfd, hok⟩
  show cs = k.cs ++ d.cs
  rw [← hk, ← hd]
  have e : (cs.drop 2).take 18 = cs.drop 2 := List.take_of_length_le (by simp [hl])
  rw [e, List.take_append_drop]
end
theorem add_plain (b o i : Nat) : (Addr.add ⟨b, o, none⟩ i) = ⟨b, o + i, none⟩ := by
  unfold Addr.add
  by_cases h : i = 0
  · subst h; simp
  · simp [h]
theorem cell_spot' {w : World} {b o : Nat} {sp : Option Nat} {v : Value} (h : w.cell? ⟨b, o, sp⟩ = some v) : sp = none ∧ b < w.heap.size := by
  constructor
  · cases sp with
    | none => rfl
    | some s =>
      simp only [World.cell?] at h
      split at h <;> simp at h
  · rcases Nat.lt_or_ge b w.heap.size with h' | h'
    · exact h'
    · simp [World.cell?, Array.getElem?_eq_none h'] at h
/-- Rows of equal length, opened one by one. -/
theorem rows_of {α : Type} {f : α → List Value} {k : Nat} (hk : ∀ a, (f a).length = k) (h0 : 0 < k) {Pr : α → Prop} {W : World} {a : Addr} {n : Nat} (each : ∀ i, i < n → ∃ u : α, Pr u ∧ W.cells? 0 (a.add (i * k)) k = some (f u)) :
    ∃ l : List α, l.length = n ∧ ∀ (j : Nat) (u : α), l[j]? = some u → Pr u ∧ ∃ b off, a = ⟨b, off, none⟩ ∧ b < W.heap.size ∧ W.rangeAt b (off + j * k) (f u) := by
  have mk : ∀ q, q ≤ n → ∃ l : List α, l.length = q ∧ ∀ (i : Nat) (u : α), l[i]? = some u → Pr u ∧ W.cells? 0 (a.add (i * k)) k = some (f u) := by
    intro q
    induction q with
    | zero => exact fun _ => ⟨[], rfl, fun i u hu => by simp at hu⟩
    | succ q ih =>
      intro hq
      obtain ⟨l, hl, hl2⟩ := ih (by omega)
      obtain ⟨u, hu2⟩ := each q (by omega)
      refine ⟨l ++ [u], by simp [hl], fun i u' hu' => ?_⟩
      rcases Nat.lt_or_ge i l.length with h1 | h1
      · rw [List.getElem?_append_left h1] at hu'
        exact hl2 i u' hu'
      · rw [List.getElem?_append_right h1] at hu'
        have h3 := (List.getElem?_eq_some_iff.1 hu').1
        have h4 : i = q := by simp at h3; omega
        subst h4
        rw [hl, Nat.sub_self] at hu'
        obtain rfl : u = u' := by simpa using hu'
        exact hu2
  obtain ⟨l, hll, hlc⟩ := mk n (Nat.le_refl _)
  refine ⟨l, hll, fun j u hu => ⟨(hlc j u hu).1, ?_⟩⟩
  have h1 := (World.cells?_some (hlc j u hu).2).2.2
  obtain ⟨b, off, sp⟩ := a
  have hl0 : 0 < l.length := Nat.lt_of_le_of_lt (Nat.zero_le _) (List.getElem?_eq_some_iff.1 hu).1
  have h00 := (World.cells?_some (hlc 0 l[0] (List.getElem?_eq_getElem hl0)).2).2.2 0 h0
  have e0 : (Addr.add (Addr.add ⟨b, off, sp⟩ (0 * k)) 0) = ⟨b, off, sp⟩ := by simp [Addr.add]
  have hlen : 0 < (f l[0]).length := by rw [hk]; exact h0
  rw [e0, List.getElem?_eq_getElem hlen] at h00
  obtain ⟨rfl, hb⟩ := cell_spot' h00
  refine ⟨b, off, rfl, hb, fun t v hv => ?_⟩
  have ht : t < k := by
    have := (List.getElem?_eq_some_iff.1 hv).1
    rwa [hk] at this
  have h2 := h1 t ht
  rw [add_plain, add_plain] at h2
  rw [h2]
  exact hv
theorem bytes46 : Tryd.prog.bytesOf 46 = 192 := by kernel_rfl
section
variable {H : Type} {enc : TypeId × Value → H} {W : World} {m : Nat} {x : DataW H × List MemPlace}
/-- A row of properties, opened. -/
theorem open_rowP {cs : List Value} (h : DataW.trod enc Tryd.prog W 0 (fun _ => true) true m 26 cs = some x) (hw : ∀ n ∈ x.1.weights Tryd.prog 26, n ≤ reachBytes) :
    ∃ (A : Option Addr) (cap : Nat) (l : List PR), cs = [.slice A l.length cap] ∧ ReadsP W A l ∧ (A = none → cap = 0) ∧ l.length ≤ 733007751850 := by
  rcases Go.Deep.open_slice Tryd.underlying26 h with ⟨hcs, hx⟩ | ⟨a, len, cap, mm, k, D, Pl, hcs, _, hl, hm, hme, hx, hel⟩
  · exact ⟨none, 0, [], hcs, fun j u hu => by simp at hu, fun _ => rfl, by simp⟩
  · have hme' : len ≤ mm := by
      simp at hme
      omega
    have each : ∀ i, i < len → ∃ u : PR, OkP u ∧ W.cells? 0 (a.add (i * 20)) 20 = some u.cs := by
      intro i hi
      obtain ⟨cs', h1, h2⟩ := hel i (by omega)
      obtain ⟨u, rfl, hu⟩ := cells_prop h2
      rw [cellsOf46] at h1
      exact ⟨u, hu, h1⟩
    obtain ⟨l, hll, hlr⟩ := rows_of pcs_length (by omega) each
    refine ⟨some a, cap, l, by rw [hcs, hll], fun j p hp => ?_, (fun h => by cases h), ?_⟩
    · obtain ⟨h1, b, off, rfl, h3, h4⟩ := hlr j p hp
      exact ⟨h1, b, off, rfl, h3, h4⟩
    · rw [hx] at hw
      have h1 := hw ((((List.range len).map D).length + ((List.range (mm - len)).map fun j => D (len + j)).length) * Tryd.prog.bytesOf 46) (by simp [DataW.weights, Tryd.underlying26])
      rw [bytes46] at h1
      have h2 := reachBytes_lt
      simp at h1
      omega
theorem weights_all {P : Program} {e : TypeId} : ∀ {l : List (DataW H)} {d : DataW H}, d ∈ l → ∀ n ∈ d.weights P e, n ∈ DataW.weightsAll P e l
  | y :: l, d, hd, n, hn => by
    simp only [DataW.weightsAll, List.mem_append]
    rcases List.mem_cons.1 hd with rfl | hd
    · exact .inl hn
    · exact .inr (weights_all hd n hn)
set_option maxRecDepth 100000 in
theorem cells_shape {cs : List Value} (h : DataW.trod enc Tryd.prog W 0 (fun _ => true) true m 28 cs = some x) (hw : ∀ n ∈ x.1.weights Tryd.prog 28, n ≤ reachBytes) :
    ∃ e : CE, (e.s.p.x < 2 ^ 64 ∧ e.s.ps.length ≤ 733007751850 ∧ ReadsP W e.A e.s.ps ∧ (e.A = none → e.cap = 0)) ∧ cs = e.cs := by
  obtain ⟨xs, n, _, rfl, hl, hlen, hf⟩ := DataW.trod_struct Tryd.underlying28 h
  rw [cellsOf28] at hl
  match cs, hl with
  | [c0, c1, c2, c3, c4, c5, c6, c7], _ =>
    have h0 := hf 0 _ rfl
    have h1 := hf 1 _ rfl
    have h2 := hf 2 _ rfl
    have h3 := hf 3 _ rfl
    simp [cellsOf3, cellsOf4, cellsOf24, cellsOf26] at h0 h1 h2 h3 hlen
    have g : ∀ j, j < 4 → ∃ y, xs[j]? = some y := fun j hj => ⟨_, List.getElem?_eq_getElem (by omega)⟩
    obtain ⟨y0, e0⟩ := g 0 (by omega)
    obtain ⟨y1, e1⟩ := g 1 (by omega)
    obtain ⟨y2, e2⟩ := g 2 (by omega)
    obtain ⟨y3, e3⟩ := g 3 (by omega)
    rw [e0] at h0
    rw [e1] at h1
    rw [e2] at h2
    rw [e3] at h3
    obtain ⟨kd, rfl, -, -⟩ := cell_int Tryd.underlying3 h0
    obtain ⟨v, hv, hx64, -⟩ := cells_value h1
    obtain ⟨b, rfl, -⟩ := cell_bool Tryd.underlying4 h2
    obtain ⟨A, cap, l, hcs, hR, hc0, hz⟩ := open_rowP h3 (fun q hq => hw q (by
      have hm := DataW.weights_mem_each (P := Tryd.prog) (ts := [3, 25, 4, 26]) (ds := xs.map (·.1)) (j := 3) (t := 26) (d := y3.1) rfl (by rw [List.getElem?_map, e3]; rfl) q hq
      simpa [DataW.weights, Tryd.underlying28] using hm))
    refine ⟨⟨⟨kd, v, b, l⟩, A, cap⟩, ⟨hx64, hz, hR, hc0⟩, ?_⟩
    simp only [List.cons.injEq] at hv hcs
    obtain ⟨rfl, rfl, rfl, rfl, rfl, -⟩ := hv
    obtain ⟨rfl, -⟩ := hcs
    rfl
/-- A list of shapes, opened. -/
theorem open_rowS {v : Value} {d : DataW H} {p : List MemPlace} {A : Option Addr} {n cap : Nat} (hv : v = .slice A n cap) (h : DataW.Trod enc Tryd.prog W 0 (fun _ => true) true 22 v d p) (hw : ∀ n ∈ d.weights Tryd.prog 22, n ≤ reachBytes) : ∃ l : List SH, n = l.length ∧ ReadsT W A l := by
  subst hv
  obtain ⟨fuel, hf⟩ := h
  rcases Go.Deep.open_slice Tryd.underlying22 hf with ⟨hcs, hx⟩ | ⟨a, len, cap', mm, k, D, Pl, hcs, _, hl, hm, hme, hx, hel⟩
  · simp [Value.cells] at hcs
    obtain ⟨rfl, rfl, rfl⟩ := hcs
    exact ⟨[], rfl, fun j u hu => by simp at hu⟩
  · simp [Value.cells] at hcs
    obtain ⟨rfl, rfl, rfl⟩ := hcs
    have hme' : n ≤ mm := by
      simp at hme
      omega
    have hd : d = .slice ((List.range n).map D) ((List.range (mm - n)).map fun j => D (n + j)) := congrArg Prod.fst hx
    have each : ∀ i, i < n → ∃ u : CE, (u.s.p.x < 2 ^ 64 ∧ u.s.ps.length ≤ 733007751850 ∧ ReadsP W u.A u.s.ps ∧ (u.A = none → u.cap = 0)) ∧ W.cells? 0 (a.add (i * 8)) 8 = some u.cs := by
      intro i hi
      obtain ⟨cs', h1, h2⟩ := hel i (by omega)
      obtain ⟨u, hu, rfl⟩ := cells_shape h2 (fun q hq => hw q (by
        have hm := weights_all (P := Tryd.prog) (e := 28) (l := (List.range n).map D) (d := D i) (List.mem_map.2 ⟨i, List.mem_range.2 hi, rfl⟩) q hq
        rw [hd]
        simp only [DataW.weights, Tryd.underlying22, List.mem_cons, List.mem_append]
        exact .inr (.inl hm)))
      rw [cellsOf28] at h1
      exact ⟨u, hu, h1⟩
    obtain ⟨l, hll, hlr⟩ := rows_of ce_length (by omega) each
    refine ⟨l.map CE.s, by simp [hll], fun j s hs => ?_⟩
    rw [List.getElem?_map] at hs
    obtain ⟨e, he, rfl⟩ := Option.map_eq_some_iff.1 hs
    obtain ⟨⟨h1, h2, h3, h4⟩, b, off, rfl, h6, h7⟩ := hlr j e he
    exact ⟨h1, h2, b, off, e.A, e.cap, rfl, h6, h3, h7, h4⟩
end
end Go.Proofs.YtmpdhmdmfmgamaaDoor
