import Derived.Test.YtcflglloopgieaaGreatDoorQn

/-! Id -/
namespace Go.Proofs.YtcflglloopgieaaGreatDoor
open Go Go.Proofs Go.Maps Go.RowKit FM
set_option linter.unusedSimpArgs false
set_option linter.unusedVariables false
set_option maxHeartbeats 1000000
theorem gskipS {md : Region.Mode} {ops : Array Oper} {Q : Exit → Act → World → Prop} {S : World → Prop} {w : World} {fuel : Nat} {listed : Array Bool} {a : Act} {o : Oper} (i : Nat) (dst : Option Tmp) (hi : ops[i]? = some o) (hs : Region.noSelect ops = true) (hf : Region.free md ops listed i = true) (hr : (Region.ready md ops listed).contains i = true)
    (hQ : ∀ c a w, Q (.panic c) (a.put dst undef) w → Q (.panic c) a w) (hd : o.dst = dst) (hw : Region.wanted o (yielded ops a.tmps) = false)
    (hS : S w) (h : wpAnyH Tryz.prog md ops Q S fuel (listed.setIfInBounds i true) (a.put dst undef) w) : wpAnyH Tryz.prog md ops Q S (fuel + 1) listed a w := by
  subst hd
  exact wpAnyH_take hi hs hf hr hQ (Or.inr ⟨hw, rfl⟩) hS h
/-- Where a key stands first; the length, if it doesn't. -/
def fx (l : List PR) (k : KK) : Nat := l.findIdx (fun p => decide (p.k = k))
def fI (l : List PR) (k : KK) : Int := if fx l k < l.length then (fx l k : Int) else -1
def NoK (l : List PR) (k : KK) (i : Nat) : Prop := ∀ (j : Nat) (q : PR), j < i → l[j]? = some q → q.k ≠ k
theorem NoK.zero (l : List PR) (k : KK) : NoK l k 0 := fun j q hj => absurd hj (Nat.not_lt_zero _)
theorem NoK.step {l : List PR} {k : KK} {i : Nat} {p : PR} (h : NoK l k i) (hp : l[i]? = some p) (hk : p.k ≠ k) : NoK l k (i + 1) := fun j q hj hq => by
  rcases Nat.lt_succ_iff_lt_or_eq.1 hj with h1 | h1
  · exact h j q h1 hq
  · subst h1
    rw [hp] at hq
    cases hq
    exact hk
theorem fx_at {l : List PR} {k : KK} {i : Nat} {p : PR} (hp : l[i]? = some p) (hk : p.k = k) (hlt : NoK l k i) : fI l k = (i : Int) ∧ fx l k = i := by
  obtain ⟨hi, rfl⟩ := List.getElem?_eq_some_iff.1 hp
  have e : fx l k = i := by
    unfold fx
    rw [List.findIdx_eq hi]
    refine ⟨by simpa using hk, fun j hj => ?_⟩
    have := hlt j _ hj (List.getElem?_eq_getElem (by omega))
    simpa using this
  refine ⟨?_, e⟩
  unfold fI
  rw [e, if_pos hi]
theorem fx_no {l : List PR} {k : KK} (hlt : NoK l k l.length) : fI l k = -1 ∧ fx l k = l.length := by
  have e : fx l k = l.length := by
    unfold fx
    rw [List.findIdx_eq_length]
    intro x hx
    obtain ⟨j, hj⟩ := List.getElem?_of_mem hx
    simpa using hlt j x (List.getElem?_eq_some_iff.1 hj).1 hj
  refine ⟨?_, e⟩
  unfold fI
  rw [e, if_neg (Nat.lt_irrefl _)]
set_option maxHeartbeats 2000000 in
set_option maxRecDepth 100000 in
theorem find_any (B : Option Addr) (cap : Nat) (ps : List PR) (k : KK) (w : World) (hR : ReadsP w B ps) (hz : ps.length ≤ 733007751850) : Calls Tryz.prog 43 #[.slice B ps.length cap, k.agg] w fun e w' => e = .returned (.int .i64 (fI ps k)) ∧ Below w.heap.size w w' := by
  have LL := hide (Hq.nil w [])
  have HR := hide hR
  have HZ := hide hz
  clear hR hz
  rw [kagg]
  go_enter Tryz.func43, Tryz.ntmps43
  go_wp2_with (first | go_skip | ((with_reducible show wpList _ _ _ _ _ _); first | ((refine bx 56 (k.cs) (by rfl) rfl rfl rfl (Nat.succ_pos _) (unhide LL) ?_); intro X1 B1 hE1 L1 hb1; have hB1 := hide (Nat.le_trans (unhide LL).fr.size (Nat.le_of_eq hE1.symm)); replace LL := hide L1; clear L1 hb1 hE1; simp only [Act.put, List.setIfInBounds_toArray, List.set_cons_succ, List.set_cons_zero]) | ((refine rd (by rfl) (ex_lenG 32 61 Tryz.underlying32 rfl rfl) ?_); simp only [Act.put, List.setIfInBounds_toArray, List.set_cons_succ, List.set_cons_zero])))
  go_loopg [5] ps.length (fun gm s5 wr => ∃ i : Nat, s5 = .int .i64 (i : Nat) ∧ i ≤ ps.length ∧ ps.length - i ≤ gm ∧ Hid (NoK ps k i) ∧ Hid (Hq w wr [] [(B1, k.cs)]))
  case atStart => exact ⟨0, rfl, by omega, by omega, hide (NoK.zero ps k), LL⟩
  case round =>
    clear LL
    obtain ⟨i, rfl, hil, hgm, HD, LL⟩ := hrel
    by_cases hlt : i < ps.length
    · have dlt : decide ((i : Int) < (ps.length : Int)) = true := decide_eq_true (by omega)
      have hw1 : IntKind.i64.wrap ((i : Int) + 1) = (i : Int) + 1 := by have := unhide HZ; rw [IntKind.wrap_i64]; omega
      obtain ⟨p, hp⟩ : ∃ p, ps[i]? = some p := ⟨_, List.getElem?_eq_getElem hlt⟩
      obtain ⟨_, b, off, hA, hb, hrg⟩ := (unhide HR) i p hp
      subst hA
      have HLT := hide hlt
      clear hil
      go_wp2_with (first | go_skip | ((with_reducible show wpList _ _ _ _ _ _); first | ((refine rd (by rfl) (ex_lenG 32 61 Tryz.underlying32 rfl rfl) ?_); simp only [Act.put, List.setIfInBounds_toArray, List.set_cons_succ, List.set_cons_zero])))
      have hq0 : Hq w _ [] [(B1, k.cs)] := (unhide LL).drew
      refine wp_region_held_drew (P := Tryz.prog) (S := fun X => Hq w X [] [(B1, k.cs)]) (by kernel_rfl) hq0 (fun hS0 => ?_)
      refine gsem 0 (some 12) (.slice (some ⟨b, off, none⟩) ps.length cap) rfl (by kernel_rfl) (by kernel_rfl) (by kernel_rfl) (fun _ _ _ h => h) (by kernel_rfl) (by kernel_rfl) (fun _ _ => by kernel_rfl) hq0 ?_
      simp only [Act.put, List.setIfInBounds_toArray, List.set_cons_succ, List.set_cons_zero]
      refine gsem 1 (some 13) (.int .i64 (i : Nat)) rfl (by kernel_rfl) (by kernel_rfl) (by kernel_rfl) (fun _ _ _ h => h) (by kernel_rfl) (by kernel_rfl) (fun _ _ => by kernel_rfl) hq0 ?_
      simp only [Act.put, List.setIfInBounds_toArray, List.set_cons_succ, List.set_cons_zero]
      refine gsem 2 (some 14) (.pointer (some ⟨b, off + i * 20, none⟩)) rfl (by kernel_rfl) (by kernel_rfl) (by kernel_rfl) (fun _ _ _ h => h) (by kernel_rfl) (by kernel_rfl) (fun X hX => ex_indexG 32 20 i unPs idPs rfl rfl rfl hlt) hq0 ?_
      simp only [Act.put, List.setIfInBounds_toArray, List.set_cons_succ, List.set_cons_zero]
      refine gsem 3 (some 15) (.pointer (some ⟨b, off + i * 20, none⟩)) rfl (by kernel_rfl) (by kernel_rfl) (by kernel_rfl) (fun _ _ _ h => h) (by kernel_rfl) (by kernel_rfl) (fun _ _ => by kernel_rfl) hq0 ?_
      simp only [Act.put, List.setIfInBounds_toArray, List.set_cons_succ, List.set_cons_zero]
      refine gsem 4 (some 16) (.agg p.k.cs.toArray) rfl (by kernel_rfl) (by kernel_rfl) (by kernel_rfl) (fun _ _ _ h => h) (by kernel_rfl) (by kernel_rfl) (fun X hX => ex_loadR (vs := p.k.cs) 56 2 rwK szK rfl rfl (range_left (a := p.k.cs) (c := p.d.cs) (rangeAt_fr hrg hb hX.fr)) rfl) hq0 ?_
      simp only [Act.put, List.setIfInBounds_toArray, List.set_cons_succ, List.set_cons_zero]
      refine gsem 5 (some 17) (.agg k.cs.toArray) rfl (by kernel_rfl) (by kernel_rfl) (by kernel_rfl) (fun _ _ _ h => h) (by kernel_rfl) (by kernel_rfl) (fun X hX => ex_loadN (vs := k.cs) 56 2 rwK szK rfl rfl (hX.get 0 rfl) rfl rfl) hq0 ?_
      simp only [Act.put, List.setIfInBounds_toArray, List.set_cons_succ, List.set_cons_zero]
      refine gsem 6 (some 18) (.bool (decide (p.k = k))) rfl (by kernel_rfl) (by kernel_rfl) (by kernel_rfl) (fun _ _ _ h => h) (by kernel_rfl) (by kernel_rfl) (fun X hX => ex_eql41 p.k k rfl rfl rfl) hq0 ?_
      simp only [Act.put, List.setIfInBounds_toArray, List.set_cons_succ, List.set_cons_zero]
      refine wpAnyH_done (by kernel_rfl) ?_ _
      try simp only [Act.put, List.setIfInBounds_toArray, List.set_cons_succ, List.set_cons_zero]
      replace LL := hide hq0
      clear hq0 hS0 hb hrg hlt
      by_cases hkk : p.k = k
      · have HF := hide (fx_at hp hkk (unhide HD)).1
        rw [decide_eq_true hkk]
        clear hkk hp
        go_wp2
        go_ret
        exact ⟨by rw [unhide HF]; rfl, (unhide LL).fr.below⟩
      · have HD2 := hide ((unhide HD).step hp hkk)
        rw [decide_eq_false hkk]
        clear hkk hp HD
        go_wp2
        go_roundg (ps.length - (i + 1))
        case measure => have := unhide HLT; omega
        case rel => exact ⟨i + 1, by go_num, by have := unhide HLT; omega, by omega, HD2, LL⟩
    · obtain rfl : i = ps.length := by omega
      have HF := hide (fx_no (unhide HD)).1
      clear hlt hil HD
      go_wp2_with (first | go_skip | ((with_reducible show wpList _ _ _ _ _ _); first | ((refine rd (by rfl) (ex_lenG 32 61 Tryz.underlying32 rfl rfl) ?_); simp only [Act.put, List.setIfInBounds_toArray, List.set_cons_succ, List.set_cons_zero])))
      go_ret
      exact ⟨by rw [unhide HF]; rfl, (unhide LL).fr.below⟩
theorem ex_neT {o : Oper} {a : Act} {w : World} {x y : Operand} {n m : Int} {r : Bool} (ho : o.op = .binOp .neq 57 x y 57) (hx : a.eval x = .int .i64 n) (hc : a.eval y = .int .i64 m) (h : (n != m) = r) : (execOp a.eval o).run Tryz.prog w = .ok (.value (.bool r)) w := by
  unfold execOp
  simp only [ho, hx, hc]
  simp [go_sem, eqGuard, h]
theorem ex_neI {o : Oper} {a : Act} {w : World} {x y : Operand} {n m : Int} {r : Bool} (ho : o.op = .binOp .neq 3 x y 3) (hx : a.eval x = .int .i64 n) (hc : a.eval y = .int .i64 m) (h : (n != m) = r) : (execOp a.eval o).run Tryz.prog w = .ok (.value (.bool r)) w := by
  unfold execOp
  simp only [ho, hx, hc]
  simp [go_sem, eqGuard, h]
def looseP (p : PR) : Bool := p.d.c != 1
def chgP (p : PR) : Bool := p.d.g.k == 0 && p.d.s.k == 0 && p.d.w != 1
set_option maxRecDepth 100000 in
theorem loose_any (p : PR) (w : World) : Calls Tryz.prog 26 #[p.agg] w fun e w' => e = .returned (.bool (looseP p)) ∧ Below w.heap.size w w' := by
  have LL := hide (Hq.nil w [])
  have hr : (p.d.c != 1) = looseP p := rfl
  generalize looseP p = r at *
  rw [pagg]
  go_enter Tryz.func26, Tryz.ntmps26
  go_wp2_with (first | go_skip | ((with_reducible show wpList _ _ _ _ _ _); first | ((refine bx 61 (p.cs) (by rfl) rfl rfl rfl (Nat.succ_pos _) (unhide LL) ?_); intro X1 B1 hE1 L1 hb1; have hB1 := hide (Nat.le_trans (unhide LL).fr.size (Nat.le_of_eq hE1.symm)); replace LL := hide L1; clear L1 hb1 hE1; simp only [Act.put, List.setIfInBounds_toArray, List.set_cons_succ, List.set_cons_zero]) | ((refine rd (by rfl) (ex_load1 57 Tryz.isAgg57 rfl rfl ((unhide LL).get 0 rfl) rfl) ?_); simp only [Act.put, List.setIfInBounds_toArray, List.set_cons_succ, List.set_cons_zero]) | ((refine rd (by rfl) (ex_neT rfl rfl rfl hr) ?_); simp only [Act.put, List.setIfInBounds_toArray, List.set_cons_succ, List.set_cons_zero])))
  go_ret
  exact ⟨rfl, (unhide LL).fr.below⟩
set_option maxRecDepth 100000 in
theorem changeable_any (p : PR) (w : World) : Calls Tryz.prog 27 #[p.agg] w fun e w' => e = .returned (.bool (chgP p)) ∧ Below w.heap.size w w' := by
  have LL := hide (Hq.nil w [])
  unfold chgP
  generalize hg : (p.d.g.k == 0) = eg
  generalize hs : (p.d.s.k == 0) = es
  generalize hw : (p.d.w != 1) = ew
  rw [pagg]
  cases eg
  · go_enter Tryz.func27, Tryz.ntmps27
    go_wp2_with (first | go_skip | ((with_reducible show wpList _ _ _ _ _ _); first | ((refine bx 61 (p.cs) (by rfl) rfl rfl rfl (Nat.succ_pos _) (unhide LL) ?_); intro X1 B1 hE1 L1 hb1; have hB1 := hide (Nat.le_trans (unhide LL).fr.size (Nat.le_of_eq hE1.symm)); replace LL := hide L1; clear L1 hb1 hE1; simp only [Act.put, List.setIfInBounds_toArray, List.set_cons_succ, List.set_cons_zero]) | ((refine rd (by rfl) (ex_loadN (vs := p.d.cs) 59 18 rwD szD rfl rfl ((unhide LL).get 0 rfl) rfl rfl) ?_); simp only [Act.put, List.setIfInBounds_toArray, List.set_cons_succ, List.set_cons_zero]) | ((refine alG 59 (zeroD.cs) (by rfl) rfl (fun w => by kernel_rfl) (Nat.succ_pos _) (unhide LL) ?_); intro X2 B2 hE2 L2 hb2; have hB2 := hide (Nat.le_trans (unhide LL).fr.size (Nat.le_of_eq hE2.symm)); replace LL := hide L2; clear L2 hb2 hE2; simp only [Act.put, List.setIfInBounds_toArray, List.set_cons_succ, List.set_cons_zero]) | ((refine st (vs := p.d.cs) 1 59 (by rfl) rfl rfl rfl rfl (by simp [DD.cs, Value.oneCell']) (szD) (unhide LL) rfl (by simp [cput, PR.cs, SH.cs, VV.cs, KK.cs, DD.cs, CO.cs, DL.cs, zeroP, zeroS, zeroD, zeroV]) (Or.inr (unhide hB2)) ?_); intro X3 L3 hf3 hs3; replace LL := hide L3; clear L3 hf3 hs3; simp only [Act.put, List.setIfInBounds_toArray, List.set_cons_succ, List.set_cons_zero]) | ((refine rd (by rfl) (ex_load1 3 Tryz.isAgg3 rfl rfl ((unhide LL).get 1 rfl) rfl) ?_); simp only [Act.put, List.setIfInBounds_toArray, List.set_cons_succ, List.set_cons_zero]) | ((refine rd (by rfl) (ex_load1 57 Tryz.isAgg57 rfl rfl ((unhide LL).get 1 rfl) rfl) ?_); simp only [Act.put, List.setIfInBounds_toArray, List.set_cons_succ, List.set_cons_zero]) | ((refine rd (by rfl) (ex_eqI rfl rfl rfl hg) ?_); simp only [Act.put, List.setIfInBounds_toArray, List.set_cons_succ, List.set_cons_zero]) | ((refine rd (by rfl) (ex_eqI rfl rfl rfl hs) ?_); simp only [Act.put, List.setIfInBounds_toArray, List.set_cons_succ, List.set_cons_zero]) | ((refine rd (by rfl) (ex_neT rfl rfl rfl hw) ?_); simp only [Act.put, List.setIfInBounds_toArray, List.set_cons_succ, List.set_cons_zero])))
    go_ret
    exact ⟨rfl, (unhide LL).fr.below⟩
  · cases es
    · go_enter Tryz.func27, Tryz.ntmps27
      go_wp2_with (first | go_skip | ((with_reducible show wpList _ _ _ _ _ _); first | ((refine bx 61 (p.cs) (by rfl) rfl rfl rfl (Nat.succ_pos _) (unhide LL) ?_); intro X1 B1 hE1 L1 hb1; have hB1 := hide (Nat.le_trans (unhide LL).fr.size (Nat.le_of_eq hE1.symm)); replace LL := hide L1; clear L1 hb1 hE1; simp only [Act.put, List.setIfInBounds_toArray, List.set_cons_succ, List.set_cons_zero]) | ((refine rd (by rfl) (ex_loadN (vs := p.d.cs) 59 18 rwD szD rfl rfl ((unhide LL).get 0 rfl) rfl rfl) ?_); simp only [Act.put, List.setIfInBounds_toArray, List.set_cons_succ, List.set_cons_zero]) | ((refine alG 59 (zeroD.cs) (by rfl) rfl (fun w => by kernel_rfl) (Nat.succ_pos _) (unhide LL) ?_); intro X2 B2 hE2 L2 hb2; have hB2 := hide (Nat.le_trans (unhide LL).fr.size (Nat.le_of_eq hE2.symm)); replace LL := hide L2; clear L2 hb2 hE2; simp only [Act.put, List.setIfInBounds_toArray, List.set_cons_succ, List.set_cons_zero]) | ((refine st (vs := p.d.cs) 1 59 (by rfl) rfl rfl rfl rfl (by simp [DD.cs, Value.oneCell']) (szD) (unhide LL) rfl (by simp [cput, PR.cs, SH.cs, VV.cs, KK.cs, DD.cs, CO.cs, DL.cs, zeroP, zeroS, zeroD, zeroV]) (Or.inr (unhide hB2)) ?_); intro X3 L3 hf3 hs3; replace LL := hide L3; clear L3 hf3 hs3; simp only [Act.put, List.setIfInBounds_toArray, List.set_cons_succ, List.set_cons_zero]) | ((refine rd (by rfl) (ex_load1 3 Tryz.isAgg3 rfl rfl ((unhide LL).get 1 rfl) rfl) ?_); simp only [Act.put, List.setIfInBounds_toArray, List.set_cons_succ, List.set_cons_zero]) | ((refine rd (by rfl) (ex_load1 57 Tryz.isAgg57 rfl rfl ((unhide LL).get 1 rfl) rfl) ?_); simp only [Act.put, List.setIfInBounds_toArray, List.set_cons_succ, List.set_cons_zero]) | ((refine rd (by rfl) (ex_eqI rfl rfl rfl hg) ?_); simp only [Act.put, List.setIfInBounds_toArray, List.set_cons_succ, List.set_cons_zero]) | ((refine rd (by rfl) (ex_eqI rfl rfl rfl hs) ?_); simp only [Act.put, List.setIfInBounds_toArray, List.set_cons_succ, List.set_cons_zero]) | ((refine rd (by rfl) (ex_neT rfl rfl rfl hw) ?_); simp only [Act.put, List.setIfInBounds_toArray, List.set_cons_succ, List.set_cons_zero])))
      go_ret
      exact ⟨rfl, (unhide LL).fr.below⟩
    · cases ew
      · go_enter Tryz.func27, Tryz.ntmps27
        go_wp2_with (first | go_skip | ((with_reducible show wpList _ _ _ _ _ _); first | ((refine bx 61 (p.cs) (by rfl) rfl rfl rfl (Nat.succ_pos _) (unhide LL) ?_); intro X1 B1 hE1 L1 hb1; have hB1 := hide (Nat.le_trans (unhide LL).fr.size (Nat.le_of_eq hE1.symm)); replace LL := hide L1; clear L1 hb1 hE1; simp only [Act.put, List.setIfInBounds_toArray, List.set_cons_succ, List.set_cons_zero]) | ((refine rd (by rfl) (ex_loadN (vs := p.d.cs) 59 18 rwD szD rfl rfl ((unhide LL).get 0 rfl) rfl rfl) ?_); simp only [Act.put, List.setIfInBounds_toArray, List.set_cons_succ, List.set_cons_zero]) | ((refine alG 59 (zeroD.cs) (by rfl) rfl (fun w => by kernel_rfl) (Nat.succ_pos _) (unhide LL) ?_); intro X2 B2 hE2 L2 hb2; have hB2 := hide (Nat.le_trans (unhide LL).fr.size (Nat.le_of_eq hE2.symm)); replace LL := hide L2; clear L2 hb2 hE2; simp only [Act.put, List.setIfInBounds_toArray, List.set_cons_succ, List.set_cons_zero]) | ((refine st (vs := p.d.cs) 1 59 (by rfl) rfl rfl rfl rfl (by simp [DD.cs, Value.oneCell']) (szD) (unhide LL) rfl (by simp [cput, PR.cs, SH.cs, VV.cs, KK.cs, DD.cs, CO.cs, DL.cs, zeroP, zeroS, zeroD, zeroV]) (Or.inr (unhide hB2)) ?_); intro X3 L3 hf3 hs3; replace LL := hide L3; clear L3 hf3 hs3; simp only [Act.put, List.setIfInBounds_toArray, List.set_cons_succ, List.set_cons_zero]) | ((refine rd (by rfl) (ex_load1 3 Tryz.isAgg3 rfl rfl ((unhide LL).get 1 rfl) rfl) ?_); simp only [Act.put, List.setIfInBounds_toArray, List.set_cons_succ, List.set_cons_zero]) | ((refine rd (by rfl) (ex_load1 57 Tryz.isAgg57 rfl rfl ((unhide LL).get 1 rfl) rfl) ?_); simp only [Act.put, List.setIfInBounds_toArray, List.set_cons_succ, List.set_cons_zero]) | ((refine rd (by rfl) (ex_eqI rfl rfl rfl hg) ?_); simp only [Act.put, List.setIfInBounds_toArray, List.set_cons_succ, List.set_cons_zero]) | ((refine rd (by rfl) (ex_eqI rfl rfl rfl hs) ?_); simp only [Act.put, List.setIfInBounds_toArray, List.set_cons_succ, List.set_cons_zero]) | ((refine rd (by rfl) (ex_neT rfl rfl rfl hw) ?_); simp only [Act.put, List.setIfInBounds_toArray, List.set_cons_succ, List.set_cons_zero])))
        go_ret
        exact ⟨rfl, (unhide LL).fr.below⟩
      · go_enter Tryz.func27, Tryz.ntmps27
        go_wp2_with (first | go_skip | ((with_reducible show wpList _ _ _ _ _ _); first | ((refine bx 61 (p.cs) (by rfl) rfl rfl rfl (Nat.succ_pos _) (unhide LL) ?_); intro X1 B1 hE1 L1 hb1; have hB1 := hide (Nat.le_trans (unhide LL).fr.size (Nat.le_of_eq hE1.symm)); replace LL := hide L1; clear L1 hb1 hE1; simp only [Act.put, List.setIfInBounds_toArray, List.set_cons_succ, List.set_cons_zero]) | ((refine rd (by rfl) (ex_loadN (vs := p.d.cs) 59 18 rwD szD rfl rfl ((unhide LL).get 0 rfl) rfl rfl) ?_); simp only [Act.put, List.setIfInBounds_toArray, List.set_cons_succ, List.set_cons_zero]) | ((refine alG 59 (zeroD.cs) (by rfl) rfl (fun w => by kernel_rfl) (Nat.succ_pos _) (unhide LL) ?_); intro X2 B2 hE2 L2 hb2; have hB2 := hide (Nat.le_trans (unhide LL).fr.size (Nat.le_of_eq hE2.symm)); replace LL := hide L2; clear L2 hb2 hE2; simp only [Act.put, List.setIfInBounds_toArray, List.set_cons_succ, List.set_cons_zero]) | ((refine st (vs := p.d.cs) 1 59 (by rfl) rfl rfl rfl rfl (by simp [DD.cs, Value.oneCell']) (szD) (unhide LL) rfl (by simp [cput, PR.cs, SH.cs, VV.cs, KK.cs, DD.cs, CO.cs, DL.cs, zeroP, zeroS, zeroD, zeroV]) (Or.inr (unhide hB2)) ?_); intro X3 L3 hf3 hs3; replace LL := hide L3; clear L3 hf3 hs3; simp only [Act.put, List.setIfInBounds_toArray, List.set_cons_succ, List.set_cons_zero]) | ((refine rd (by rfl) (ex_load1 3 Tryz.isAgg3 rfl rfl ((unhide LL).get 1 rfl) rfl) ?_); simp only [Act.put, List.setIfInBounds_toArray, List.set_cons_succ, List.set_cons_zero]) | ((refine rd (by rfl) (ex_load1 57 Tryz.isAgg57 rfl rfl ((unhide LL).get 1 rfl) rfl) ?_); simp only [Act.put, List.setIfInBounds_toArray, List.set_cons_succ, List.set_cons_zero]) | ((refine rd (by rfl) (ex_eqI rfl rfl rfl hg) ?_); simp only [Act.put, List.setIfInBounds_toArray, List.set_cons_succ, List.set_cons_zero]) | ((refine rd (by rfl) (ex_eqI rfl rfl rfl hs) ?_); simp only [Act.put, List.setIfInBounds_toArray, List.set_cons_succ, List.set_cons_zero]) | ((refine rd (by rfl) (ex_neT rfl rfl rfl hw) ?_); simp only [Act.put, List.setIfInBounds_toArray, List.set_cons_succ, List.set_cons_zero])))
        go_ret
        exact ⟨rfl, (unhide LL).fr.below⟩
end Go.Proofs.YtcflglloopgieaaGreatDoor

/-! Ie -/
namespace Go.Proofs.YtcflglloopgieaaGreatDoor
open Go Go.Proofs Go.Maps Go.RowKit FM
set_option linter.unusedSimpArgs false
set_option linter.unusedVariables false
set_option maxHeartbeats 1000000
theorem coagg (c : CO) : c.agg = .agg c.cs.toArray := rfl
set_option maxRecDepth 100000 in
theorem lost_any (c : CO) (w : World) : Calls Tryz.prog 36 #[c.agg] w fun e w' => e = .returned (.bool c.gone) ∧ Below w.heap.size w w' := by
  have LL := hide (Hq.nil w [])
  rw [coagg]
  go_enter Tryz.func36, Tryz.ntmps36
  go_wp2_with (first | go_skip | ((with_reducible show wpList _ _ _ _ _ _); first | ((refine bx 46 (c.cs) (by rfl) rfl rfl rfl (Nat.succ_pos _) (unhide LL) ?_); intro X1 B1 hE1 L1 hb1; have hB1 := hide (Nat.le_trans (unhide LL).fr.size (Nat.le_of_eq hE1.symm)); replace LL := hide L1; clear L1 hb1 hE1; simp only [Act.put, List.setIfInBounds_toArray, List.set_cons_succ, List.set_cons_zero]) | ((refine rd (by rfl) (ex_load1 4 Tryz.isAgg4 rfl rfl ((unhide LL).get 0 rfl) rfl) ?_); simp only [Act.put, List.setIfInBounds_toArray, List.set_cons_succ, List.set_cons_zero])))
  go_ret
  exact ⟨rfl, (unhide LL).fr.below⟩
def clV (c : CO) : Bool := c.is.c != c.was.c
def oaV (c : CO) : Bool := !c.was.x && c.is.x
def opV (c : CO) : Bool := !c.was.x && !eqB c.was.p c.is.p
set_option maxRecDepth 100000 in
theorem otherClass_any (c : CO) (w : World) : Calls Tryz.prog 37 #[c.agg] w fun e w' => e = .returned (.bool (clV c)) ∧ Below w.heap.size w w' := by
  have LL := hide (Hq.nil w [])
  have hr : (c.is.c != c.was.c) = clV c := rfl
  generalize clV c = r at *
  rw [coagg]
  go_enter Tryz.func37, Tryz.ntmps37
  go_wp2_with (first | go_skip | ((with_reducible show wpList _ _ _ _ _ _); first | ((refine bx 46 (c.cs) (by rfl) rfl rfl rfl (Nat.succ_pos _) (unhide LL) ?_); intro X1 B1 hE1 L1 hb1; have hB1 := hide (Nat.le_trans (unhide LL).fr.size (Nat.le_of_eq hE1.symm)); replace LL := hide L1; clear L1 hb1 hE1; simp only [Act.put, List.setIfInBounds_toArray, List.set_cons_succ, List.set_cons_zero]) | ((refine rd (by rfl) (ex_load1 3 Tryz.isAgg3 rfl rfl ((unhide LL).get 0 rfl) rfl) ?_); simp only [Act.put, List.setIfInBounds_toArray, List.set_cons_succ, List.set_cons_zero]) | ((refine rd (by rfl) (ex_neI rfl rfl rfl hr) ?_); simp only [Act.put, List.setIfInBounds_toArray, List.set_cons_succ, List.set_cons_zero])))
  go_ret
  exact ⟨rfl, (unhide LL).fr.below⟩
set_option maxRecDepth 100000 in
theorem openAgain_any (c : CO) (w : World) : Calls Tryz.prog 38 #[c.agg] w fun e w' => e = .returned (.bool (oaV c)) ∧ Below w.heap.size w w' := by
  have LL := hide (Hq.nil w [])
  unfold oaV
  rw [coagg]
  have hc : c.cs = c.was.cs c.wA c.wc ++ c.is.cs c.iA c.ic ++ [.bool c.gone] := rfl
  have h6 : c.cs[6]? = some (.bool c.was.x) := rfl
  have h14 : c.cs[14]? = some (.bool c.is.x) := rfl
  generalize c.cs = l at *
  generalize c.was.x = x at *
  generalize c.is.x = y at *
  clear hc
  have H6 := hide h6
  have H14 := hide h14
  clear h6 h14
  have hl : 0 < l.length := by have := (List.getElem?_eq_some_iff.1 (unhide H6)).1; omega
  have HL := hide hl
  clear hl
  cases x
  · go_enter Tryz.func38, Tryz.ntmps38
    go_wp2_with (first | go_skip | ((with_reducible show wpList _ _ _ _ _ _); first | ((refine bx 46 l (by rfl) rfl rfl rfl (unhide HL) (unhide LL) ?_); intro X1 B1 hE1 L1 hb1; replace LL := hide L1; clear L1 hb1 hE1; simp only [Act.put, List.setIfInBounds_toArray, List.set_cons_succ, List.set_cons_zero]) | ((refine rd (by rfl) (ex_load1 4 Tryz.isAgg4 rfl rfl ((unhide LL).get 0 rfl) (unhide H6)) ?_); simp only [Act.put, List.setIfInBounds_toArray, List.set_cons_succ, List.set_cons_zero]) | ((refine rd (by rfl) (ex_load1 4 Tryz.isAgg4 rfl rfl ((unhide LL).get 0 rfl) (unhide H14)) ?_); simp only [Act.put, List.setIfInBounds_toArray, List.set_cons_succ, List.set_cons_zero])))
    go_ret
    exact ⟨by simp, (unhide LL).fr.below⟩
  · go_enter Tryz.func38, Tryz.ntmps38
    go_wp2_with (first | go_skip | ((with_reducible show wpList _ _ _ _ _ _); first | ((refine bx 46 l (by rfl) rfl rfl rfl (unhide HL) (unhide LL) ?_); intro X1 B1 hE1 L1 hb1; replace LL := hide L1; clear L1 hb1 hE1; simp only [Act.put, List.setIfInBounds_toArray, List.set_cons_succ, List.set_cons_zero]) | ((refine rd (by rfl) (ex_load1 4 Tryz.isAgg4 rfl rfl ((unhide LL).get 0 rfl) (unhide H6)) ?_); simp only [Act.put, List.setIfInBounds_toArray, List.set_cons_succ, List.set_cons_zero]) | ((refine rd (by rfl) (ex_load1 4 Tryz.isAgg4 rfl rfl ((unhide LL).get 0 rfl) (unhide H14)) ?_); simp only [Act.put, List.setIfInBounds_toArray, List.set_cons_succ, List.set_cons_zero])))
    go_ret
    exact ⟨by simp, (unhide LL).fr.below⟩
theorem co_at6 (c : CO) : c.cs[6]? = some (.bool c.was.x) := rfl
theorem co_at14 (c : CO) : c.cs[14]? = some (.bool c.is.x) := rfl
set_option maxRecDepth 100000 in
theorem otherProto_any (c : CO) (w : World) (hT : Lib.Utf8Tabs 1 2 w) : Calls Tryz.prog 39 #[c.agg] w fun e w' => e = .returned (.bool (opV c)) ∧ Below w.heap.size w w' := by
  have LL := hide (Hq.nil w [])
  have HT := hide hT
  clear hT
  have HS := hide (sameValue_any c.was.p c.is.p)
  simp only [vagg] at HS
  unfold opV
  rw [coagg]
  have H6 := hide (co_at6 c)
  generalize c.was.x = x at *
  generalize eqB c.was.p c.is.p = q at *
  cases x
  · go_enter Tryz.func39, Tryz.ntmps39
    go_wp2_with (first | go_skip | ((with_reducible show wpList _ _ _ _ _ _); first | ((refine bx 46 (c.cs) (by rfl) rfl rfl rfl (Nat.succ_pos _) (unhide LL) ?_); intro X1 B1 hE1 L1 hb1; have hB1 := hide (Nat.le_trans (unhide LL).fr.size (Nat.le_of_eq hE1.symm)); replace LL := hide L1; clear L1 hb1 hE1; simp only [Act.put, List.setIfInBounds_toArray, List.set_cons_succ, List.set_cons_zero]) | ((refine rd (by rfl) (ex_load1 4 Tryz.isAgg4 rfl rfl ((unhide LL).get 0 rfl) (unhide H6)) ?_); simp only [Act.put, List.setIfInBounds_toArray, List.set_cons_succ, List.set_cons_zero]) | ((refine rd (by rfl) (ex_loadN (vs := c.was.p.cs) 31 5 rwV szV rfl rfl ((unhide LL).get 0 rfl) rfl rfl) ?_); simp only [Act.put, List.setIfInBounds_toArray, List.set_cons_succ, List.set_cons_zero]) | ((refine rd (by rfl) (ex_loadN (vs := c.is.p.cs) 31 5 rwV szV rfl rfl ((unhide LL).get 0 rfl) rfl rfl) ?_); simp only [Act.put, List.setIfInBounds_toArray, List.set_cons_succ, List.set_cons_zero])))
    refine (unhide HS _ (tabs_below (unhide HT) (unhide LL).fr.below)).mono ?_
    rintro e w' ⟨rfl, hb⟩
    replace LL := hide ((unhide LL).on hb)
    clear hb
    go_wp2_with (first | go_skip | ((with_reducible show wpList _ _ _ _ _ _); first | ((refine bx 46 (c.cs) (by rfl) rfl rfl rfl (Nat.succ_pos _) (unhide LL) ?_); intro X1 B1 hE1 L1 hb1; have hB1 := hide (Nat.le_trans (unhide LL).fr.size (Nat.le_of_eq hE1.symm)); replace LL := hide L1; clear L1 hb1 hE1; simp only [Act.put, List.setIfInBounds_toArray, List.set_cons_succ, List.set_cons_zero]) | ((refine rd (by rfl) (ex_load1 4 Tryz.isAgg4 rfl rfl ((unhide LL).get 0 rfl) (unhide H6)) ?_); simp only [Act.put, List.setIfInBounds_toArray, List.set_cons_succ, List.set_cons_zero]) | ((refine rd (by rfl) (ex_loadN (vs := c.was.p.cs) 31 5 rwV szV rfl rfl ((unhide LL).get 0 rfl) rfl rfl) ?_); simp only [Act.put, List.setIfInBounds_toArray, List.set_cons_succ, List.set_cons_zero]) | ((refine rd (by rfl) (ex_loadN (vs := c.is.p.cs) 31 5 rwV szV rfl rfl ((unhide LL).get 0 rfl) rfl rfl) ?_); simp only [Act.put, List.setIfInBounds_toArray, List.set_cons_succ, List.set_cons_zero])))
    go_ret
    exact ⟨by simp, (unhide LL).fr.below⟩
  · go_enter Tryz.func39, Tryz.ntmps39
    go_wp2_with (first | go_skip | ((with_reducible show wpList _ _ _ _ _ _); first | ((refine bx 46 (c.cs) (by rfl) rfl rfl rfl (Nat.succ_pos _) (unhide LL) ?_); intro X1 B1 hE1 L1 hb1; have hB1 := hide (Nat.le_trans (unhide LL).fr.size (Nat.le_of_eq hE1.symm)); replace LL := hide L1; clear L1 hb1 hE1; simp only [Act.put, List.setIfInBounds_toArray, List.set_cons_succ, List.set_cons_zero]) | ((refine rd (by rfl) (ex_load1 4 Tryz.isAgg4 rfl rfl ((unhide LL).get 0 rfl) (unhide H6)) ?_); simp only [Act.put, List.setIfInBounds_toArray, List.set_cons_succ, List.set_cons_zero]) | ((refine rd (by rfl) (ex_loadN (vs := c.was.p.cs) 31 5 rwV szV rfl rfl ((unhide LL).get 0 rfl) rfl rfl) ?_); simp only [Act.put, List.setIfInBounds_toArray, List.set_cons_succ, List.set_cons_zero]) | ((refine rd (by rfl) (ex_loadN (vs := c.is.p.cs) 31 5 rwV szV rfl rfl ((unhide LL).get 0 rfl) rfl rfl) ?_); simp only [Act.put, List.setIfInBounds_toArray, List.set_cons_succ, List.set_cons_zero])))
    go_ret
    exact ⟨by simp, (unhide LL).fr.below⟩
theorem keep_e (a b : DD) : (keepB a b && keepE a b == 0) = keepB a b := by
  unfold keepB keepE
  cases stV a <;> cases stV b <;> simp
theorem ex_eqE {o : Oper} {a : Act} {w : World} {x y : Operand} {n m : Int} {r : Bool} (ho : o.op = .binOp .eql 37 x y 37) (hx : a.eval x = .int .i64 n) (hc : a.eval y = .int .i64 m) (h : (n == m) = r) : (execOp a.eval o).run Tryz.prog w = .ok (.value (.bool r)) w := by
  unfold execOp
  simp only [ho, hx, hc]
  simp [go_sem, eqGuard, h]
set_option maxRecDepth 100000 in
theorem keeps65 (a b : DD) (ha : FD a) (hb : FD b) (w : World) (hT : Lib.Utf8Tabs 1 2 w) : Calls Tryz.prog 59 #[a.agg, b.agg] w fun e w' => e = .returned (.bool (keepB a b)) ∧ Below w.heap.size w w' := by
  have LL := hide (Hq.nil w [])
  have HT := hide hT
  clear hT
  have HS := hide (keeps_any a b ha hb)
  clear ha hb
  rw [← keep_e]
  simp only [dagg] at HS ⊢
  generalize keepB a b = q at *
  generalize keepE a b = e at *
  generalize hz : (e == 0) = z
  go_enter Tryz.func59, Tryz.ntmps59
  go_wp2_with (first | go_skip | ((with_reducible show wpList _ _ _ _ _ _); first | ((refine bx 59 (a.cs) (by rfl) rfl rfl rfl (Nat.succ_pos _) (unhide LL) ?_); intro X1 B1 hE1 L1 hb1; have hB1 := hide (Nat.le_trans (unhide LL).fr.size (Nat.le_of_eq hE1.symm)); replace LL := hide L1; clear L1 hb1 hE1; simp only [Act.put, List.setIfInBounds_toArray, List.set_cons_succ, List.set_cons_zero]) | ((refine bx 59 (b.cs) (by rfl) rfl rfl rfl (Nat.succ_pos _) (unhide LL) ?_); intro X2 B2 hE2 L2 hb2; have hB2 := hide (Nat.le_trans (unhide LL).fr.size (Nat.le_of_eq hE2.symm)); replace LL := hide L2; clear L2 hb2 hE2; simp only [Act.put, List.setIfInBounds_toArray, List.set_cons_succ, List.set_cons_zero]) | ((refine rd (by rfl) (ex_loadN (vs := a.cs) 59 18 rwD szD rfl rfl ((unhide LL).get 0 rfl) rfl rfl) ?_); simp only [Act.put, List.setIfInBounds_toArray, List.set_cons_succ, List.set_cons_zero]) | ((refine rd (by rfl) (ex_loadN (vs := b.cs) 59 18 rwD szD rfl rfl ((unhide LL).get 1 rfl) rfl rfl) ?_); simp only [Act.put, List.setIfInBounds_toArray, List.set_cons_succ, List.set_cons_zero]) | ((refine rd (by rfl) (ex_eqE rfl rfl rfl hz) ?_); simp only [Act.put, List.setIfInBounds_toArray, List.set_cons_succ, List.set_cons_zero])))
  refine (unhide HS _ (tabs_below (unhide HT) (unhide LL).fr.below)).mono ?_
  rintro _ w' ⟨rfl, hb⟩
  replace LL := hide ((unhide LL).on hb)
  clear hb
  cases q
  · go_wp2_with (first | go_skip | ((with_reducible show wpList _ _ _ _ _ _); first | ((refine bx 59 (a.cs) (by rfl) rfl rfl rfl (Nat.succ_pos _) (unhide LL) ?_); intro X1 B1 hE1 L1 hb1; have hB1 := hide (Nat.le_trans (unhide LL).fr.size (Nat.le_of_eq hE1.symm)); replace LL := hide L1; clear L1 hb1 hE1; simp only [Act.put, List.setIfInBounds_toArray, List.set_cons_succ, List.set_cons_zero]) | ((refine bx 59 (b.cs) (by rfl) rfl rfl rfl (Nat.succ_pos _) (unhide LL) ?_); intro X2 B2 hE2 L2 hb2; have hB2 := hide (Nat.le_trans (unhide LL).fr.size (Nat.le_of_eq hE2.symm)); replace LL := hide L2; clear L2 hb2 hE2; simp only [Act.put, List.setIfInBounds_toArray, List.set_cons_succ, List.set_cons_zero]) | ((refine rd (by rfl) (ex_loadN (vs := a.cs) 59 18 rwD szD rfl rfl ((unhide LL).get 0 rfl) rfl rfl) ?_); simp only [Act.put, List.setIfInBounds_toArray, List.set_cons_succ, List.set_cons_zero]) | ((refine rd (by rfl) (ex_loadN (vs := b.cs) 59 18 rwD szD rfl rfl ((unhide LL).get 1 rfl) rfl rfl) ?_); simp only [Act.put, List.setIfInBounds_toArray, List.set_cons_succ, List.set_cons_zero]) | ((refine rd (by rfl) (ex_eqE rfl rfl rfl hz) ?_); simp only [Act.put, List.setIfInBounds_toArray, List.set_cons_succ, List.set_cons_zero])))
    go_ret
    exact ⟨by simp, (unhide LL).fr.below⟩
  · go_wp2_with (first | go_skip | ((with_reducible show wpList _ _ _ _ _ _); first | ((refine bx 59 (a.cs) (by rfl) rfl rfl rfl (Nat.succ_pos _) (unhide LL) ?_); intro X1 B1 hE1 L1 hb1; have hB1 := hide (Nat.le_trans (unhide LL).fr.size (Nat.le_of_eq hE1.symm)); replace LL := hide L1; clear L1 hb1 hE1; simp only [Act.put, List.setIfInBounds_toArray, List.set_cons_succ, List.set_cons_zero]) | ((refine bx 59 (b.cs) (by rfl) rfl rfl rfl (Nat.succ_pos _) (unhide LL) ?_); intro X2 B2 hE2 L2 hb2; have hB2 := hide (Nat.le_trans (unhide LL).fr.size (Nat.le_of_eq hE2.symm)); replace LL := hide L2; clear L2 hb2 hE2; simp only [Act.put, List.setIfInBounds_toArray, List.set_cons_succ, List.set_cons_zero]) | ((refine rd (by rfl) (ex_loadN (vs := a.cs) 59 18 rwD szD rfl rfl ((unhide LL).get 0 rfl) rfl rfl) ?_); simp only [Act.put, List.setIfInBounds_toArray, List.set_cons_succ, List.set_cons_zero]) | ((refine rd (by rfl) (ex_loadN (vs := b.cs) 59 18 rwD szD rfl rfl ((unhide LL).get 1 rfl) rfl rfl) ?_); simp only [Act.put, List.setIfInBounds_toArray, List.set_cons_succ, List.set_cons_zero]) | ((refine rd (by rfl) (ex_eqE rfl rfl rfl hz) ?_); simp only [Act.put, List.setIfInBounds_toArray, List.set_cons_succ, List.set_cons_zero])))
    go_ret
    exact ⟨by simp, (unhide LL).fr.below⟩
end Go.Proofs.YtcflglloopgieaaGreatDoor

/-! If -/
namespace Go.Proofs.YtcflglloopgieaaGreatDoor
open Go Go.Proofs Go.Maps Go.RowKit FM
set_option linter.unusedSimpArgs false
set_option linter.unusedVariables false
set_option maxHeartbeats 1000000
def fO (l : List PR) (k : KK) : Option Nat := l.findIdx? (fun p => decide (p.k = k))
def oI : Option Nat → Int
  | some j => (j : Int)
  | none => -1
theorem fI_fO (l : List PR) (k : KK) : fI l k = oI (fO l k) := by
  unfold fI fO fx
  rw [List.findIdx?_eq_guard_findIdx_lt]
  by_cases h : l.findIdx (fun p => decide (p.k = k)) < l.length
  · simp [Option.guard, h, oI]
  · simp [Option.guard, h, oI]
theorem fO_succ {l : List PR} {i : Nat} {p : PR} (hp : l[i]? = some p) (q : KK) : fO (l.take (i + 1)) q = (fO (l.take i) q).or (if q = p.k then some i else none) := by
  obtain ⟨hi, rfl⟩ := List.getElem?_eq_some_iff.1 hp
  unfold fO
  rw [List.take_succ_eq_append_getElem hi, List.findIdx?_append]
  congr 1
  by_cases e : q = l[i].k
  · subst e
    simp [List.findIdx?_cons, Nat.min_eq_left (Nat.le_of_lt hi)]
  · simp [List.findIdx?_cons, e, Ne.symm e]
/-- How many keys there are among the first ones. -/
def cntK (l : List PR) : Nat → Nat
  | 0 => 0
  | i + 1 => match l[i]? with
    | none => cntK l i
    | some p => if (fO (l.take i) p.k).isSome then cntK l i else cntK l i + 1
theorem cntK_yes {l : List PR} {i : Nat} {p : PR} (hp : l[i]? = some p) (h : (fO (l.take i) p.k).isSome = true) : cntK l (i + 1) = cntK l i := by
  simp [cntK, hp, h]
theorem cntK_no {l : List PR} {i : Nat} {p : PR} (hp : l[i]? = some p) (h : fO (l.take i) p.k = none) : cntK l (i + 1) = cntK l i + 1 := by
  simp [cntK, hp, h]
theorem fO_yes {l : List PR} {i : Nat} {p : PR} (hp : l[i]? = some p) (h : (fO (l.take i) p.k).isSome = true) (q : KK) : fO (l.take i) q = fO (l.take (i + 1)) q := by
  rw [fO_succ hp]
  by_cases e : q = p.k
  · subst e
    obtain ⟨j, hj⟩ := Option.isSome_iff_exists.1 h
    simp [hj]
  · simp [e]
theorem fO_put {l : List PR} {i : Nat} {p : PR} (hp : l[i]? = some p) (h : fO (l.take i) p.k = none) (q : KK) : putF (fO (l.take i)) p.k i q = fO (l.take (i + 1)) q := by
  rw [fO_succ hp, putF]
  by_cases e : q = p.k
  · subst e
    simp [h]
  · simp [e]
def PlPost (w : World) (ps : List PR) (e : Ending) (X : World) : Prop := ∃ B n : Nat, e = .returned (.map (some B)) ∧ w.heap.size ≤ B ∧ MapI X B n (cntK ps ps.length) (fO ps) ∧ Below w.heap.size w X
set_option maxHeartbeats 2000000 in
set_option maxRecDepth 100000 in
theorem places_any (B : Option Addr) (cap : Nat) (ps : List PR) (w : World) (hR : ReadsP w B ps) (hz : ps.length ≤ 733007751850) : Calls Tryz.prog 51 #[.slice B ps.length cap] w (PlPost w ps) := by
  have LL := hide (Hq.nil w [])
  have HR := hide hR
  have HZ := hide hz
  clear hR hz
  go_enter Tryz.func51, Tryz.ntmps51
  go_wp2_with (first | go_skip | ((with_reducible show wpList _ _ _ _ _ _); first | ((refine rd (by rfl) (ex_lenG 32 61 Tryz.underlying32 rfl rfl) ?_); simp only [Act.put, List.setIfInBounds_toArray, List.set_cons_succ, List.set_cons_zero]) | ((refine mmI (by rfl) rfl rfl (unhide LL) ?_); intro X1 M1 hE1 L1 hM1 hb1; have HM := hide (And.intro hM1 (Nat.le_trans (unhide LL).fr.size (Nat.le_of_eq hE1.symm))); replace LL := hide L1; clear L1 hM1 hb1 hE1; simp only [Act.put, List.setIfInBounds_toArray, List.set_cons_succ, List.set_cons_zero])))
  go_loopg [13] ps.length (fun gm s13 wr => ∃ i : Nat, s13 = .int .i64 (i : Nat) ∧ i ≤ ps.length ∧ ps.length - i ≤ gm ∧ Hid ((∃ n, n ≤ i ∧ MapI wr M1 n (cntK ps i) (fO (ps.take i))) ∧ w.heap.size ≤ M1) ∧ Hid (Hq w wr [] []))
  case atStart => exact ⟨0, rfl, by omega, by omega, hide ⟨⟨0, Nat.le_refl _, (unhide HM).1.congr rfl (fun k => by simp [fO])⟩, (unhide HM).2⟩, LL⟩
  case round =>
    clear LL HM
    obtain ⟨i, rfl, hil, hgm, HM0, LL⟩ := hrel
    by_cases hlt : i < ps.length
    · have dlt : decide ((i : Int) < (ps.length : Int)) = true := decide_eq_true (by omega)
      have hw1 : IntKind.i64.wrap ((i : Int) + 1) = (i : Int) + 1 := by have := unhide HZ; rw [IntKind.wrap_i64]; omega
      obtain ⟨p, hp⟩ : ∃ p, ps[i]? = some p := ⟨_, List.getElem?_eq_getElem hlt⟩
      obtain ⟨hok, b, off, hA, hb, hrg⟩ := (unhide HR) i p hp
      subst hA
      have HA2 : Hid (∀ X, Fr w X [] → X.rangeAt b (off + i * 20) p.cs) := hide (fun X hX => rangeAt_fr hrg hb hX)
      have HLT := hide hlt
      obtain ⟨⟨n, hni, hm0⟩, hM0⟩ := unhide HM0
      have HM := hide (And.intro hm0 hM0)
      have HMX : Hid (n < maxLen) := hide (by have := unhide HZ; unfold maxLen; omega)
      have HNI := hide hni
      have HOK := hide hok.2
      clear HM0 hm0 hM0 hb hrg hlt hil hok hni
      cases hfo : fO (ps.take i) p.k
      · have HFO := hide hfo
        have HS := hide (cntK_no hp hfo)
        have HP := hide (fO_put hp hfo)
        clear hp hfo
        go_wp2_with (first | go_skip | ((with_reducible show wpList _ _ _ _ _ _); first | ((refine rd (by rfl) (ex_lenG 32 61 Tryz.underlying32 rfl rfl) ?_); simp only [Act.put, List.setIfInBounds_toArray, List.set_cons_succ, List.set_cons_zero]) | ((refine rd (by rfl) (ex_indexG 32 20 i unPs idPs rfl rfl rfl (unhide HLT)) ?_); simp only [Act.put, List.setIfInBounds_toArray, List.set_cons_succ, List.set_cons_zero]) | ((refine rd (by rfl) (ex_loadR (vs := p.cs) 61 20 rwP szP rfl rfl (unhide HA2 _ (unhide LL).fr) rfl) ?_); simp only [Act.put, List.setIfInBounds_toArray, List.set_cons_succ, List.set_cons_zero]) | ((refine alG 61 (zeroP.cs) (by rfl) rfl (fun w => by kernel_rfl) (Nat.succ_pos _) (unhide LL) ?_); intro X3 B3 hE3 L3 hb3; have hB3 := hide (Nat.le_trans (unhide LL).fr.size (Nat.le_of_eq hE3.symm)); have hNE : Hid (M1 ≠ B3) := hide (Nat.ne_of_lt (Nat.lt_of_lt_of_le (unhide HM).1.lt (Nat.le_of_eq hE3.symm))); replace HM := hide (And.intro ((unhide HM).1.on hb3) (unhide HM).2); replace LL := hide L3; clear L3 hb3 hE3; simp only [Act.put, List.setIfInBounds_toArray, List.set_cons_succ, List.set_cons_zero]) | ((refine st (vs := p.cs) 0 61 (by rfl) rfl rfl rfl rfl (pcs_one p) (szP) (unhide LL) rfl (by simp [cput, PR.cs, SH.cs, VV.cs, KK.cs, DD.cs, CO.cs, DL.cs, zeroP, zeroS, zeroD, zeroV]) (Or.inr (unhide hB3)) ?_); intro X4 L4 hf4 hs4; replace HM := hide (And.intro ((unhide HM).1.far hf4 (unhide hNE)) (unhide HM).2); replace LL := hide L4; clear L4 hf4 hs4; simp only [Act.put, List.setIfInBounds_toArray, List.set_cons_succ, List.set_cons_zero]) | ((refine rd (by rfl) (ex_loadN (vs := p.k.cs) 56 2 rwK szK rfl rfl ((unhide LL).get 0 rfl) rfl rfl) ?_); simp only [Act.put, List.setIfInBounds_toArray, List.set_cons_succ, List.set_cons_zero]) | ((refine rd (by rfl) (ex_lookI rfl rfl rfl (unhide HM).1 (unhide HOK) (unhide HFO)) ?_); simp only [Act.put, List.setIfInBounds_toArray, List.set_cons_succ, List.set_cons_zero]) | ((refine updI (k := p.k) (by rfl) rfl rfl rfl rfl (unhide HM).1 (unhide HOK) (unhide HMX) ?_); intro X6 hm6 hf6; have HM6 := hide (And.intro hm6 (And.intro (unhide HM).2 ((unhide LL).fr.trans hf6 (fun b hb => .inr (by obtain rfl : b = M1 := (by simpa using hb); exact (unhide HM).2))))); clear hm6 hf6 HM LL; simp only [Act.put, List.setIfInBounds_toArray, List.set_cons_succ, List.set_cons_zero])))
        unfold nz
        go_wp2_with (first | go_skip | ((with_reducible show wpList _ _ _ _ _ _); first | ((refine rd (by rfl) (ex_lenG 32 61 Tryz.underlying32 rfl rfl) ?_); simp only [Act.put, List.setIfInBounds_toArray, List.set_cons_succ, List.set_cons_zero]) | ((refine rd (by rfl) (ex_indexG 32 20 i unPs idPs rfl rfl rfl (unhide HLT)) ?_); simp only [Act.put, List.setIfInBounds_toArray, List.set_cons_succ, List.set_cons_zero]) | ((refine rd (by rfl) (ex_loadR (vs := p.cs) 61 20 rwP szP rfl rfl (unhide HA2 _ (unhide LL).fr) rfl) ?_); simp only [Act.put, List.setIfInBounds_toArray, List.set_cons_succ, List.set_cons_zero]) | ((refine alG 61 (zeroP.cs) (by rfl) rfl (fun w => by kernel_rfl) (Nat.succ_pos _) (unhide LL) ?_); intro X3 B3 hE3 L3 hb3; have hB3 := hide (Nat.le_trans (unhide LL).fr.size (Nat.le_of_eq hE3.symm)); have hNE : Hid (M1 ≠ B3) := hide (Nat.ne_of_lt (Nat.lt_of_lt_of_le (unhide HM).1.lt (Nat.le_of_eq hE3.symm))); replace HM := hide (And.intro ((unhide HM).1.on hb3) (unhide HM).2); replace LL := hide L3; clear L3 hb3 hE3; simp only [Act.put, List.setIfInBounds_toArray, List.set_cons_succ, List.set_cons_zero]) | ((refine st (vs := p.cs) 0 61 (by rfl) rfl rfl rfl rfl (pcs_one p) (szP) (unhide LL) rfl (by simp [cput, PR.cs, SH.cs, VV.cs, KK.cs, DD.cs, CO.cs, DL.cs, zeroP, zeroS, zeroD, zeroV]) (Or.inr (unhide hB3)) ?_); intro X4 L4 hf4 hs4; replace HM := hide (And.intro ((unhide HM).1.far hf4 (unhide hNE)) (unhide HM).2); replace LL := hide L4; clear L4 hf4 hs4; simp only [Act.put, List.setIfInBounds_toArray, List.set_cons_succ, List.set_cons_zero]) | ((refine rd (by rfl) (ex_loadN (vs := p.k.cs) 56 2 rwK szK rfl rfl ((unhide LL).get 0 rfl) rfl rfl) ?_); simp only [Act.put, List.setIfInBounds_toArray, List.set_cons_succ, List.set_cons_zero]) | ((refine rd (by rfl) (ex_lookI rfl rfl rfl (unhide HM).1 (unhide HOK) (unhide HFO)) ?_); simp only [Act.put, List.setIfInBounds_toArray, List.set_cons_succ, List.set_cons_zero]) | ((refine updI (k := p.k) (by rfl) rfl rfl rfl rfl (unhide HM).1 (unhide HOK) (unhide HMX) ?_); intro X6 hm6 hf6; have HM6 := hide (And.intro hm6 (And.intro (unhide HM).2 ((unhide LL).fr.trans hf6 (fun b hb => .inr (by obtain rfl : b = M1 := (by simpa using hb); exact (unhide HM).2))))); clear hm6 hf6 HM LL; simp only [Act.put, List.setIfInBounds_toArray, List.set_cons_succ, List.set_cons_zero])))
        have HMN : Hid ((∃ n, n ≤ i + 1 ∧ MapI _ M1 n (cntK ps (i + 1)) (fO (ps.take (i + 1)))) ∧ w.heap.size ≤ M1) := hide ⟨⟨n + 1, by have := unhide HNI; omega, (unhide HM6).1.congr (by rw [unhide HS, unhide HFO]; rfl) (unhide HP)⟩, (unhide HM6).2.1⟩
        have LN : Hid (Hq w _ [] []) := hide ⟨(unhide HM6).2.2, by simp, by simp⟩
        clear HM6
        go_wp2_with (first | go_skip | ((with_reducible show wpList _ _ _ _ _ _); first | ((refine rd (by rfl) (ex_lenG 32 61 Tryz.underlying32 rfl rfl) ?_); simp only [Act.put, List.setIfInBounds_toArray, List.set_cons_succ, List.set_cons_zero]) | ((refine rd (by rfl) (ex_indexG 32 20 i unPs idPs rfl rfl rfl (unhide HLT)) ?_); simp only [Act.put, List.setIfInBounds_toArray, List.set_cons_succ, List.set_cons_zero]) | ((refine rd (by rfl) (ex_loadR (vs := p.cs) 61 20 rwP szP rfl rfl (unhide HA2 _ (unhide LL).fr) rfl) ?_); simp only [Act.put, List.setIfInBounds_toArray, List.set_cons_succ, List.set_cons_zero]) | ((refine alG 61 (zeroP.cs) (by rfl) rfl (fun w => by kernel_rfl) (Nat.succ_pos _) (unhide LL) ?_); intro X3 B3 hE3 L3 hb3; have hB3 := hide (Nat.le_trans (unhide LL).fr.size (Nat.le_of_eq hE3.symm)); have hNE : Hid (M1 ≠ B3) := hide (Nat.ne_of_lt (Nat.lt_of_lt_of_le (unhide HM).1.lt (Nat.le_of_eq hE3.symm))); replace HM := hide (And.intro ((unhide HM).1.on hb3) (unhide HM).2); replace LL := hide L3; clear L3 hb3 hE3; simp only [Act.put, List.setIfInBounds_toArray, List.set_cons_succ, List.set_cons_zero]) | ((refine st (vs := p.cs) 0 61 (by rfl) rfl rfl rfl rfl (pcs_one p) (szP) (unhide LL) rfl (by simp [cput, PR.cs, SH.cs, VV.cs, KK.cs, DD.cs, CO.cs, DL.cs, zeroP, zeroS, zeroD, zeroV]) (Or.inr (unhide hB3)) ?_); intro X4 L4 hf4 hs4; replace HM := hide (And.intro ((unhide HM).1.far hf4 (unhide hNE)) (unhide HM).2); replace LL := hide L4; clear L4 hf4 hs4; simp only [Act.put, List.setIfInBounds_toArray, List.set_cons_succ, List.set_cons_zero]) | ((refine rd (by rfl) (ex_loadN (vs := p.k.cs) 56 2 rwK szK rfl rfl ((unhide LL).get 0 rfl) rfl rfl) ?_); simp only [Act.put, List.setIfInBounds_toArray, List.set_cons_succ, List.set_cons_zero]) | ((refine rd (by rfl) (ex_lookI rfl rfl rfl (unhide HM).1 (unhide HOK) (unhide HFO)) ?_); simp only [Act.put, List.setIfInBounds_toArray, List.set_cons_succ, List.set_cons_zero]) | ((refine updI (k := p.k) (by rfl) rfl rfl rfl rfl (unhide HM).1 (unhide HOK) (unhide HMX) ?_); intro X6 hm6 hf6; have HM6 := hide (And.intro hm6 (And.intro (unhide HM).2 ((unhide LL).fr.trans hf6 (fun b hb => .inr (by obtain rfl : b = M1 := (by simpa using hb); exact (unhide HM).2))))); clear hm6 hf6 HM LL; simp only [Act.put, List.setIfInBounds_toArray, List.set_cons_succ, List.set_cons_zero])))
        go_roundg (ps.length - (i + 1))
        case measure => have := unhide HLT; omega
        case rel => exact ⟨i + 1, by go_num, by have := unhide HLT; omega, by omega, HMN, LN⟩
      · rename_i jj
        have HFO := hide hfo
        have HS := hide (cntK_yes hp (by rw [hfo]; rfl))
        have HP := hide (fO_yes hp (by rw [hfo]; rfl))
        clear hp hfo
        go_wp2_with (first | go_skip | ((with_reducible show wpList _ _ _ _ _ _); first | ((refine rd (by rfl) (ex_lenG 32 61 Tryz.underlying32 rfl rfl) ?_); simp only [Act.put, List.setIfInBounds_toArray, List.set_cons_succ, List.set_cons_zero]) | ((refine rd (by rfl) (ex_indexG 32 20 i unPs idPs rfl rfl rfl (unhide HLT)) ?_); simp only [Act.put, List.setIfInBounds_toArray, List.set_cons_succ, List.set_cons_zero]) | ((refine rd (by rfl) (ex_loadR (vs := p.cs) 61 20 rwP szP rfl rfl (unhide HA2 _ (unhide LL).fr) rfl) ?_); simp only [Act.put, List.setIfInBounds_toArray, List.set_cons_succ, List.set_cons_zero]) | ((refine alG 61 (zeroP.cs) (by rfl) rfl (fun w => by kernel_rfl) (Nat.succ_pos _) (unhide LL) ?_); intro X3 B3 hE3 L3 hb3; have hB3 := hide (Nat.le_trans (unhide LL).fr.size (Nat.le_of_eq hE3.symm)); have hNE : Hid (M1 ≠ B3) := hide (Nat.ne_of_lt (Nat.lt_of_lt_of_le (unhide HM).1.lt (Nat.le_of_eq hE3.symm))); replace HM := hide (And.intro ((unhide HM).1.on hb3) (unhide HM).2); replace LL := hide L3; clear L3 hb3 hE3; simp only [Act.put, List.setIfInBounds_toArray, List.set_cons_succ, List.set_cons_zero]) | ((refine st (vs := p.cs) 0 61 (by rfl) rfl rfl rfl rfl (pcs_one p) (szP) (unhide LL) rfl (by simp [cput, PR.cs, SH.cs, VV.cs, KK.cs, DD.cs, CO.cs, DL.cs, zeroP, zeroS, zeroD, zeroV]) (Or.inr (unhide hB3)) ?_); intro X4 L4 hf4 hs4; replace HM := hide (And.intro ((unhide HM).1.far hf4 (unhide hNE)) (unhide HM).2); replace LL := hide L4; clear L4 hf4 hs4; simp only [Act.put, List.setIfInBounds_toArray, List.set_cons_succ, List.set_cons_zero]) | ((refine rd (by rfl) (ex_loadN (vs := p.k.cs) 56 2 rwK szK rfl rfl ((unhide LL).get 0 rfl) rfl rfl) ?_); simp only [Act.put, List.setIfInBounds_toArray, List.set_cons_succ, List.set_cons_zero]) | ((refine rd (by rfl) (ex_lookI rfl rfl rfl (unhide HM).1 (unhide HOK) (unhide HFO)) ?_); simp only [Act.put, List.setIfInBounds_toArray, List.set_cons_succ, List.set_cons_zero]) | ((refine updI (k := p.k) (by rfl) rfl rfl rfl rfl (unhide HM).1 (unhide HOK) (unhide HMX) ?_); intro X6 hm6 hf6; have HM6 := hide (And.intro hm6 (And.intro (unhide HM).2 ((unhide LL).fr.trans hf6 (fun b hb => .inr (by obtain rfl : b = M1 := (by simpa using hb); exact (unhide HM).2))))); clear hm6 hf6 HM LL; simp only [Act.put, List.setIfInBounds_toArray, List.set_cons_succ, List.set_cons_zero])))
        have HMN : Hid ((∃ n, n ≤ i + 1 ∧ MapI _ M1 n (cntK ps (i + 1)) (fO (ps.take (i + 1)))) ∧ w.heap.size ≤ M1) := hide ⟨⟨n, by have := unhide HNI; omega, (unhide HM).1.congr (unhide HS).symm (unhide HP)⟩, (unhide HM).2⟩
        replace LL := hide (Hq.left (L := []) (unhide LL))
        clear HM
        go_roundg (ps.length - (i + 1))
        case measure => have := unhide HLT; omega
        case rel => exact ⟨i + 1, by go_num, by have := unhide HLT; omega, by omega, HMN, LL⟩
    · obtain rfl : i = ps.length := by omega
      clear hlt hil
      go_wp2_with (first | go_skip | ((with_reducible show wpList _ _ _ _ _ _); first | ((refine rd (by rfl) (ex_lenG 32 61 Tryz.underlying32 rfl rfl) ?_); simp only [Act.put, List.setIfInBounds_toArray, List.set_cons_succ, List.set_cons_zero])))
      go_ret
      obtain ⟨⟨n, _, hm0⟩, hM0⟩ := unhide HM0
      exact ⟨M1, n, rfl, hM0, hm0.congr rfl (fun k => by rw [List.take_length]), (unhide LL).fr.below⟩
end Go.Proofs.YtcflglloopgieaaGreatDoor

/-! Ig -/
namespace Go.Proofs.YtcflglloopgieaaGreatDoor
open Go Go.Proofs Go.Maps Go.RowKit FM
set_option linter.unusedSimpArgs false
set_option linter.unusedVariables false
set_option maxHeartbeats 1000000
theorem oI_any {α : Type} (l : List α) (q : α → Bool) : decide (0 ≤ oI (l.findIdx? q)) = l.any q := by
  cases h : l.findIdx? q with
  | none =>
    rw [List.findIdx?_eq_none_iff] at h
    have : l.any q = false := by
      rw [List.any_eq_false]
      intro x hx
      simp [h x hx]
    rw [this]
    simp [oI]
  | some j =>
    obtain ⟨hj, hq, _⟩ := List.findIdx?_eq_some_iff_getElem.1 h
    have : l.any q = true := by
      rw [List.any_eq_true]
      exact ⟨_, List.getElem_mem hj, hq⟩
    rw [this]
    simp [oI]
theorem qx_at {α : Type} {l : List α} {q : α → Bool} {i : Nat} {p : α} (hp : l[i]? = some p) (hq : q p = true) (hlt : ∀ (j : Nat) (r : α), j < i → l[j]? = some r → q r = false) : oI (l.findIdx? q) = (i : Int) := by
  obtain ⟨hi, rfl⟩ := List.getElem?_eq_some_iff.1 hp
  have e : l.findIdx? q = some i := by
    rw [List.findIdx?_eq_some_iff_getElem]
    exact ⟨hi, hq, fun j hj => by rw [hlt j _ hj (List.getElem?_eq_getElem (by omega))]; simp⟩
  rw [e]; rfl
theorem qx_no {α : Type} {l : List α} {q : α → Bool} (hlt : ∀ (j : Nat) (r : α), j < l.length → l[j]? = some r → q r = false) : oI (l.findIdx? q) = -1 := by
  have e : l.findIdx? q = none := by
    rw [List.findIdx?_eq_none_iff]
    intro x hx
    obtain ⟨j, hj⟩ := List.getElem?_of_mem hx
    exact hlt j x (List.getElem?_eq_some_iff.1 hj).1 hj
  rw [e]; rfl
def NoQ {α : Type} (l : List α) (q : α → Bool) (i : Nat) : Prop := ∀ (j : Nat) (r : α), j < i → l[j]? = some r → q r = false
theorem NoQ.zero {α : Type} (l : List α) (q : α → Bool) : NoQ l q 0 := fun j q hj => absurd hj (Nat.not_lt_zero _)
theorem NoQ.step {α : Type} {l : List α} {q : α → Bool} {i : Nat} {p : α} (h : NoQ l q i) (hp : l[i]? = some p) (hk : q p = false) : NoQ l q (i + 1) := fun j r hj hq => by
  rcases Nat.lt_succ_iff_lt_or_eq.1 hj with h1 | h1
  · exact h j r h1 hq
  · subst h1
    rw [hp] at hq
    cases hq
    exact hk
set_option maxRecDepth 100000 in
theorem IxL (B : Option Addr) (cap : Nat) (ps : List PR) (q : PR → Bool) (w : World) (hR : ReadsP w B ps) (hz : ps.length ≤ 733007751850) (HC : ∀ (j : Nat) (p : PR), ps[j]? = some p → ∀ X, Fr w X [] → Calls Tryz.prog 26 #[p.agg] X fun e X' => e = .returned (.bool (q p)) ∧ Below X.heap.size X X') : Calls Tryz.prog 49 #[.slice B ps.length cap, .func (.func 26) #[] #[]] w fun e w' => e = .returned (.int .i64 (oI (ps.findIdx? q))) ∧ Below w.heap.size w w' := by
  have LL := hide (Hq.nil w [])
  have HR := hide hR
  have HZ := hide hz
  have HCC := hide HC
  clear hR hz HC
  go_enter Tryz.func49, Tryz.ntmps49
  go_wp2_with (first | go_skip | ((with_reducible show wpList _ _ _ _ _ _); first | ((refine rd (by rfl) (ex_lenG 32 61 Tryz.underlying32 rfl rfl) ?_); simp only [Act.put, List.setIfInBounds_toArray, List.set_cons_succ, List.set_cons_zero])))
  go_loopg [8] ps.length (fun gm s8 wr => ∃ i : Nat, s8 = .int .i64 (i : Nat) ∧ i ≤ ps.length ∧ ps.length - i ≤ gm ∧ Hid (NoQ ps q i) ∧ Hid (Hq w wr [] []))
  case atStart => exact ⟨0, rfl, by omega, by omega, hide (NoQ.zero ps q), LL⟩
  case round =>
    clear LL
    obtain ⟨i, rfl, hil, hgm, HD, LL⟩ := hrel
    by_cases hlt : i < ps.length
    · have dlt : decide ((i : Int) < (ps.length : Int)) = true := decide_eq_true (by omega)
      have hw1 : IntKind.i64.wrap ((i : Int) + 1) = (i : Int) + 1 := by have := unhide HZ; rw [IntKind.wrap_i64]; omega
      obtain ⟨p, hp⟩ : ∃ p, ps[i]? = some p := ⟨_, List.getElem?_eq_getElem hlt⟩
      obtain ⟨_, b, off, hA, hb, hrg⟩ := (unhide HR) i p hp
      subst hA
      have HA2 : Hid (∀ X, Fr w X [] → X.rangeAt b (off + i * 20) p.cs) := hide (fun X hX => rangeAt_fr hrg hb hX)
      have HC := hide ((unhide HCC) i p hp)
      simp only [pagg] at HC
      have HLT := hide hlt
      clear hil hlt hb hrg
      go_wp2_with (first | go_skip | ((with_reducible show wpList _ _ _ _ _ _); first | ((refine rd (by rfl) (ex_lenG 32 61 Tryz.underlying32 rfl rfl) ?_); simp only [Act.put, List.setIfInBounds_toArray, List.set_cons_succ, List.set_cons_zero]) | ((refine rd (by rfl) (ex_indexG 32 20 i unPs idPs rfl rfl rfl (unhide HLT)) ?_); simp only [Act.put, List.setIfInBounds_toArray, List.set_cons_succ, List.set_cons_zero]) | ((refine rd (by rfl) (ex_loadR (vs := p.cs) 61 20 rwP szP rfl rfl (unhide HA2 _ (unhide LL).fr) rfl) ?_); simp only [Act.put, List.setIfInBounds_toArray, List.set_cons_succ, List.set_cons_zero])))
      refine (unhide HC _ (unhide LL).fr).mono ?_
      rintro e X5 ⟨rfl, hb5⟩
      replace LL := hide ((unhide LL).on hb5)
      clear hb5
      cases hqp : q p
      · have HD2 := hide ((unhide HD).step hp hqp)
        clear hqp hp HD
        go_wp2_with (first | go_skip | ((with_reducible show wpList _ _ _ _ _ _); first | ((refine rd (by rfl) (ex_lenG 32 61 Tryz.underlying32 rfl rfl) ?_); simp only [Act.put, List.setIfInBounds_toArray, List.set_cons_succ, List.set_cons_zero]) | ((refine rd (by rfl) (ex_indexG 32 20 i unPs idPs rfl rfl rfl (unhide HLT)) ?_); simp only [Act.put, List.setIfInBounds_toArray, List.set_cons_succ, List.set_cons_zero]) | ((refine rd (by rfl) (ex_loadR (vs := p.cs) 61 20 rwP szP rfl rfl (unhide HA2 _ (unhide LL).fr) rfl) ?_); simp only [Act.put, List.setIfInBounds_toArray, List.set_cons_succ, List.set_cons_zero])))
        go_roundg (ps.length - (i + 1))
        case measure => have := unhide HLT; omega
        case rel => exact ⟨i + 1, by go_num, by have := unhide HLT; omega, by omega, HD2, LL⟩
      · have HF := hide (qx_at hp hqp (unhide HD))
        clear hqp hp HD
        go_wp2_with (first | go_skip | ((with_reducible show wpList _ _ _ _ _ _); first | ((refine rd (by rfl) (ex_lenG 32 61 Tryz.underlying32 rfl rfl) ?_); simp only [Act.put, List.setIfInBounds_toArray, List.set_cons_succ, List.set_cons_zero]) | ((refine rd (by rfl) (ex_indexG 32 20 i unPs idPs rfl rfl rfl (unhide HLT)) ?_); simp only [Act.put, List.setIfInBounds_toArray, List.set_cons_succ, List.set_cons_zero]) | ((refine rd (by rfl) (ex_loadR (vs := p.cs) 61 20 rwP szP rfl rfl (unhide HA2 _ (unhide LL).fr) rfl) ?_); simp only [Act.put, List.setIfInBounds_toArray, List.set_cons_succ, List.set_cons_zero])))
        go_ret
        exact ⟨by rw [unhide HF]; rfl, (unhide LL).fr.below⟩
    · obtain rfl : i = ps.length := by omega
      have HF := hide (qx_no (unhide HD))
      clear hlt hil HD
      go_wp2_with (first | go_skip | ((with_reducible show wpList _ _ _ _ _ _); first | ((refine rd (by rfl) (ex_lenG 32 61 Tryz.underlying32 rfl rfl) ?_); simp only [Act.put, List.setIfInBounds_toArray, List.set_cons_succ, List.set_cons_zero])))
      go_ret
      exact ⟨by rw [unhide HF]; rfl, (unhide LL).fr.below⟩
set_option maxRecDepth 100000 in
theorem hasIxL (B : Option Addr) (cap : Nat) (ps : List PR) (q : PR → Bool) (w : World) (hR : ReadsP w B ps) (hz : ps.length ≤ 733007751850) (HC : ∀ (j : Nat) (p : PR), ps[j]? = some p → ∀ X, Fr w X [] → Calls Tryz.prog 26 #[p.agg] X fun e X' => e = .returned (.bool (q p)) ∧ Below X.heap.size X X') : Calls Tryz.prog 25 #[.slice B ps.length cap, .func (.func 26) #[] #[]] w fun e w' => e = .returned (.bool (ps.any q)) ∧ Below w.heap.size w w' := by
  have HI := hide (IxL B cap ps q w hR hz HC)
  have hq := oI_any ps q
  clear HC hR hz
  generalize oI (ps.findIdx? q) = r at *
  generalize ps.any q = t at *
  go_enter Tryz.func25, Tryz.ntmps25
  go_wp2_with fail
  refine (unhide HI).mono ?_
  rintro e X5 ⟨rfl, hb5⟩
  have HB := hide hb5
  clear hb5
  go_wp2
  go_ret
  exact ⟨by simp [← hq], unhide HB⟩
set_option maxRecDepth 100000 in
theorem IxC (B : Option Addr) (cap : Nat) (ps : List PR) (q : PR → Bool) (w : World) (hR : ReadsP w B ps) (hz : ps.length ≤ 733007751850) (HC : ∀ (j : Nat) (p : PR), ps[j]? = some p → ∀ X, Fr w X [] → Calls Tryz.prog 27 #[p.agg] X fun e X' => e = .returned (.bool (q p)) ∧ Below X.heap.size X X') : Calls Tryz.prog 49 #[.slice B ps.length cap, .func (.func 27) #[] #[]] w fun e w' => e = .returned (.int .i64 (oI (ps.findIdx? q))) ∧ Below w.heap.size w w' := by
  have LL := hide (Hq.nil w [])
  have HR := hide hR
  have HZ := hide hz
  have HCC := hide HC
  clear hR hz HC
  go_enter Tryz.func49, Tryz.ntmps49
  go_wp2_with (first | go_skip | ((with_reducible show wpList _ _ _ _ _ _); first | ((refine rd (by rfl) (ex_lenG 32 61 Tryz.underlying32 rfl rfl) ?_); simp only [Act.put, List.setIfInBounds_toArray, List.set_cons_succ, List.set_cons_zero])))
  go_loopg [8] ps.length (fun gm s8 wr => ∃ i : Nat, s8 = .int .i64 (i : Nat) ∧ i ≤ ps.length ∧ ps.length - i ≤ gm ∧ Hid (NoQ ps q i) ∧ Hid (Hq w wr [] []))
  case atStart => exact ⟨0, rfl, by omega, by omega, hide (NoQ.zero ps q), LL⟩
  case round =>
    clear LL
    obtain ⟨i, rfl, hil, hgm, HD, LL⟩ := hrel
    by_cases hlt : i < ps.length
    · have dlt : decide ((i : Int) < (ps.length : Int)) = true := decide_eq_true (by omega)
      have hw1 : IntKind.i64.wrap ((i : Int) + 1) = (i : Int) + 1 := by have := unhide HZ; rw [IntKind.wrap_i64]; omega
      obtain ⟨p, hp⟩ : ∃ p, ps[i]? = some p := ⟨_, List.getElem?_eq_getElem hlt⟩
      obtain ⟨_, b, off, hA, hb, hrg⟩ := (unhide HR) i p hp
      subst hA
      have HA2 : Hid (∀ X, Fr w X [] → X.rangeAt b (off + i * 20) p.cs) := hide (fun X hX => rangeAt_fr hrg hb hX)
      have HC := hide ((unhide HCC) i p hp)
      simp only [pagg] at HC
      have HLT := hide hlt
      clear hil hlt hb hrg
      go_wp2_with (first | go_skip | ((with_reducible show wpList _ _ _ _ _ _); first | ((refine rd (by rfl) (ex_lenG 32 61 Tryz.underlying32 rfl rfl) ?_); simp only [Act.put, List.setIfInBounds_toArray, List.set_cons_succ, List.set_cons_zero]) | ((refine rd (by rfl) (ex_indexG 32 20 i unPs idPs rfl rfl rfl (unhide HLT)) ?_); simp only [Act.put, List.setIfInBounds_toArray, List.set_cons_succ, List.set_cons_zero]) | ((refine rd (by rfl) (ex_loadR (vs := p.cs) 61 20 rwP szP rfl rfl (unhide HA2 _ (unhide LL).fr) rfl) ?_); simp only [Act.put, List.setIfInBounds_toArray, List.set_cons_succ, List.set_cons_zero])))
      refine (unhide HC _ (unhide LL).fr).mono ?_
      rintro e X5 ⟨rfl, hb5⟩
      replace LL := hide ((unhide LL).on hb5)
      clear hb5
      cases hqp : q p
      · have HD2 := hide ((unhide HD).step hp hqp)
        clear hqp hp HD
        go_wp2_with (first | go_skip | ((with_reducible show wpList _ _ _ _ _ _); first | ((refine rd (by rfl) (ex_lenG 32 61 Tryz.underlying32 rfl rfl) ?_); simp only [Act.put, List.setIfInBounds_toArray, List.set_cons_succ, List.set_cons_zero]) | ((refine rd (by rfl) (ex_indexG 32 20 i unPs idPs rfl rfl rfl (unhide HLT)) ?_); simp only [Act.put, List.setIfInBounds_toArray, List.set_cons_succ, List.set_cons_zero]) | ((refine rd (by rfl) (ex_loadR (vs := p.cs) 61 20 rwP szP rfl rfl (unhide HA2 _ (unhide LL).fr) rfl) ?_); simp only [Act.put, List.setIfInBounds_toArray, List.set_cons_succ, List.set_cons_zero])))
        go_roundg (ps.length - (i + 1))
        case measure => have := unhide HLT; omega
        case rel => exact ⟨i + 1, by go_num, by have := unhide HLT; omega, by omega, HD2, LL⟩
      · have HF := hide (qx_at hp hqp (unhide HD))
        clear hqp hp HD
        go_wp2_with (first | go_skip | ((with_reducible show wpList _ _ _ _ _ _); first | ((refine rd (by rfl) (ex_lenG 32 61 Tryz.underlying32 rfl rfl) ?_); simp only [Act.put, List.setIfInBounds_toArray, List.set_cons_succ, List.set_cons_zero]) | ((refine rd (by rfl) (ex_indexG 32 20 i unPs idPs rfl rfl rfl (unhide HLT)) ?_); simp only [Act.put, List.setIfInBounds_toArray, List.set_cons_succ, List.set_cons_zero]) | ((refine rd (by rfl) (ex_loadR (vs := p.cs) 61 20 rwP szP rfl rfl (unhide HA2 _ (unhide LL).fr) rfl) ?_); simp only [Act.put, List.setIfInBounds_toArray, List.set_cons_succ, List.set_cons_zero])))
        go_ret
        exact ⟨by rw [unhide HF]; rfl, (unhide LL).fr.below⟩
    · obtain rfl : i = ps.length := by omega
      have HF := hide (qx_no (unhide HD))
      clear hlt hil HD
      go_wp2_with (first | go_skip | ((with_reducible show wpList _ _ _ _ _ _); first | ((refine rd (by rfl) (ex_lenG 32 61 Tryz.underlying32 rfl rfl) ?_); simp only [Act.put, List.setIfInBounds_toArray, List.set_cons_succ, List.set_cons_zero])))
      go_ret
      exact ⟨by rw [unhide HF]; rfl, (unhide LL).fr.below⟩
set_option maxRecDepth 100000 in
theorem hasIxC (B : Option Addr) (cap : Nat) (ps : List PR) (q : PR → Bool) (w : World) (hR : ReadsP w B ps) (hz : ps.length ≤ 733007751850) (HC : ∀ (j : Nat) (p : PR), ps[j]? = some p → ∀ X, Fr w X [] → Calls Tryz.prog 27 #[p.agg] X fun e X' => e = .returned (.bool (q p)) ∧ Below X.heap.size X X') : Calls Tryz.prog 25 #[.slice B ps.length cap, .func (.func 27) #[] #[]] w fun e w' => e = .returned (.bool (ps.any q)) ∧ Below w.heap.size w w' := by
  have HI := hide (IxC B cap ps q w hR hz HC)
  have hq := oI_any ps q
  clear HC hR hz
  generalize oI (ps.findIdx? q) = r at *
  generalize ps.any q = t at *
  go_enter Tryz.func25, Tryz.ntmps25
  go_wp2_with fail
  refine (unhide HI).mono ?_
  rintro e X5 ⟨rfl, hb5⟩
  have HB := hide hb5
  clear hb5
  go_wp2
  go_ret
  exact ⟨by simp [← hq], unhide HB⟩
set_option maxRecDepth 100000 in
theorem IxM (B : Option Addr) (cap : Nat) (ps : List PR) (cv : Value) (q : PR → Bool) (w : World) (hR : ReadsP w B ps) (hz : ps.length ≤ 733007751850) (HC : ∀ (j : Nat) (p : PR), ps[j]? = some p → ∀ X, Fr w X [] → Calls Tryz.prog 58 #[p.agg, cv] X fun e X' => e = .returned (.bool (q p)) ∧ Below X.heap.size X X') : Calls Tryz.prog 49 #[.slice B ps.length cap, .func (.func 58) #[] #[cv]] w fun e w' => e = .returned (.int .i64 (oI (ps.findIdx? q))) ∧ Below w.heap.size w w' := by
  have LL := hide (Hq.nil w [])
  have HR := hide hR
  have HZ := hide hz
  have HCC := hide HC
  clear hR hz HC
  go_enter Tryz.func49, Tryz.ntmps49
  go_wp2_with (first | go_skip | ((with_reducible show wpList _ _ _ _ _ _); first | ((refine rd (by rfl) (ex_lenG 32 61 Tryz.underlying32 rfl rfl) ?_); simp only [Act.put, List.setIfInBounds_toArray, List.set_cons_succ, List.set_cons_zero])))
  go_loopg [8] ps.length (fun gm s8 wr => ∃ i : Nat, s8 = .int .i64 (i : Nat) ∧ i ≤ ps.length ∧ ps.length - i ≤ gm ∧ Hid (NoQ ps q i) ∧ Hid (Hq w wr [] []))
  case atStart => exact ⟨0, rfl, by omega, by omega, hide (NoQ.zero ps q), LL⟩
  case round =>
    clear LL
    obtain ⟨i, rfl, hil, hgm, HD, LL⟩ := hrel
    by_cases hlt : i < ps.length
    · have dlt : decide ((i : Int) < (ps.length : Int)) = true := decide_eq_true (by omega)
      have hw1 : IntKind.i64.wrap ((i : Int) + 1) = (i : Int) + 1 := by have := unhide HZ; rw [IntKind.wrap_i64]; omega
      obtain ⟨p, hp⟩ : ∃ p, ps[i]? = some p := ⟨_, List.getElem?_eq_getElem hlt⟩
      obtain ⟨_, b, off, hA, hb, hrg⟩ := (unhide HR) i p hp
      subst hA
      have HA2 : Hid (∀ X, Fr w X [] → X.rangeAt b (off + i * 20) p.cs) := hide (fun X hX => rangeAt_fr hrg hb hX)
      have HC := hide ((unhide HCC) i p hp)
      simp only [pagg] at HC
      have HLT := hide hlt
      clear hil hlt hb hrg
      go_wp2_with (first | go_skip | ((with_reducible show wpList _ _ _ _ _ _); first | ((refine rd (by rfl) (ex_lenG 32 61 Tryz.underlying32 rfl rfl) ?_); simp only [Act.put, List.setIfInBounds_toArray, List.set_cons_succ, List.set_cons_zero]) | ((refine rd (by rfl) (ex_indexG 32 20 i unPs idPs rfl rfl rfl (unhide HLT)) ?_); simp only [Act.put, List.setIfInBounds_toArray, List.set_cons_succ, List.set_cons_zero]) | ((refine rd (by rfl) (ex_loadR (vs := p.cs) 61 20 rwP szP rfl rfl (unhide HA2 _ (unhide LL).fr) rfl) ?_); simp only [Act.put, List.setIfInBounds_toArray, List.set_cons_succ, List.set_cons_zero])))
      refine (unhide HC _ (unhide LL).fr).mono ?_
      rintro e X5 ⟨rfl, hb5⟩
      replace LL := hide ((unhide LL).on hb5)
      clear hb5
      cases hqp : q p
      · have HD2 := hide ((unhide HD).step hp hqp)
        clear hqp hp HD
        go_wp2_with (first | go_skip | ((with_reducible show wpList _ _ _ _ _ _); first | ((refine rd (by rfl) (ex_lenG 32 61 Tryz.underlying32 rfl rfl) ?_); simp only [Act.put, List.setIfInBounds_toArray, List.set_cons_succ, List.set_cons_zero]) | ((refine rd (by rfl) (ex_indexG 32 20 i unPs idPs rfl rfl rfl (unhide HLT)) ?_); simp only [Act.put, List.setIfInBounds_toArray, List.set_cons_succ, List.set_cons_zero]) | ((refine rd (by rfl) (ex_loadR (vs := p.cs) 61 20 rwP szP rfl rfl (unhide HA2 _ (unhide LL).fr) rfl) ?_); simp only [Act.put, List.setIfInBounds_toArray, List.set_cons_succ, List.set_cons_zero])))
        go_roundg (ps.length - (i + 1))
        case measure => have := unhide HLT; omega
        case rel => exact ⟨i + 1, by go_num, by have := unhide HLT; omega, by omega, HD2, LL⟩
      · have HF := hide (qx_at hp hqp (unhide HD))
        clear hqp hp HD
        go_wp2_with (first | go_skip | ((with_reducible show wpList _ _ _ _ _ _); first | ((refine rd (by rfl) (ex_lenG 32 61 Tryz.underlying32 rfl rfl) ?_); simp only [Act.put, List.setIfInBounds_toArray, List.set_cons_succ, List.set_cons_zero]) | ((refine rd (by rfl) (ex_indexG 32 20 i unPs idPs rfl rfl rfl (unhide HLT)) ?_); simp only [Act.put, List.setIfInBounds_toArray, List.set_cons_succ, List.set_cons_zero]) | ((refine rd (by rfl) (ex_loadR (vs := p.cs) 61 20 rwP szP rfl rfl (unhide HA2 _ (unhide LL).fr) rfl) ?_); simp only [Act.put, List.setIfInBounds_toArray, List.set_cons_succ, List.set_cons_zero])))
        go_ret
        exact ⟨by rw [unhide HF]; rfl, (unhide LL).fr.below⟩
    · obtain rfl : i = ps.length := by omega
      have HF := hide (qx_no (unhide HD))
      clear hlt hil HD
      go_wp2_with (first | go_skip | ((with_reducible show wpList _ _ _ _ _ _); first | ((refine rd (by rfl) (ex_lenG 32 61 Tryz.underlying32 rfl rfl) ?_); simp only [Act.put, List.setIfInBounds_toArray, List.set_cons_succ, List.set_cons_zero])))
      go_ret
      exact ⟨by rw [unhide HF]; rfl, (unhide LL).fr.below⟩
set_option maxRecDepth 100000 in
theorem hasIxM (B : Option Addr) (cap : Nat) (ps : List PR) (cv : Value) (q : PR → Bool) (w : World) (hR : ReadsP w B ps) (hz : ps.length ≤ 733007751850) (HC : ∀ (j : Nat) (p : PR), ps[j]? = some p → ∀ X, Fr w X [] → Calls Tryz.prog 58 #[p.agg, cv] X fun e X' => e = .returned (.bool (q p)) ∧ Below X.heap.size X X') : Calls Tryz.prog 25 #[.slice B ps.length cap, .func (.func 58) #[] #[cv]] w fun e w' => e = .returned (.bool (ps.any q)) ∧ Below w.heap.size w w' := by
  have HI := hide (IxM B cap ps cv q w hR hz HC)
  have hq := oI_any ps q
  clear HC hR hz
  generalize oI (ps.findIdx? q) = r at *
  generalize ps.any q = t at *
  go_enter Tryz.func25, Tryz.ntmps25
  go_wp2_with fail
  refine (unhide HI).mono ?_
  rintro e X5 ⟨rfl, hb5⟩
  have HB := hide hb5
  clear hb5
  go_wp2
  go_ret
  exact ⟨by simp [← hq], unhide HB⟩
set_option maxRecDepth 100000 in
theorem IxD (B : Option Addr) (cap : Nat) (ps : List SH) (q : SH → Bool) (w : World) (hR : ReadsS w B ps) (hz : ps.length ≤ 733007751850) (HC : ∀ (j : Nat) (p : SH) (SA : Option Addr) (sc : Nat), ps[j]? = some p → ReadsP w SA p.ps → ∀ X, Fr w X [] → Calls Tryz.prog 30 #[p.agg SA sc] X fun e X' => e = .returned (.bool (q p)) ∧ Below X.heap.size X X') : Calls Tryz.prog 50 #[.slice B ps.length cap, .func (.func 30) #[] #[]] w fun e w' => e = .returned (.int .i64 (oI (ps.findIdx? q))) ∧ Below w.heap.size w w' := by
  have LL := hide (Hq.nil w [])
  have HR := hide hR
  have HZ := hide hz
  have HCC := hide HC
  clear hR hz HC
  go_enter Tryz.func50, Tryz.ntmps50
  go_wp2_with (first | go_skip | ((with_reducible show wpList _ _ _ _ _ _); first | ((refine rd (by rfl) (ex_lenG 22 34 Tryz.underlying22 rfl rfl) ?_); simp only [Act.put, List.setIfInBounds_toArray, List.set_cons_succ, List.set_cons_zero])))
  go_loopg [8] ps.length (fun gm s8 wr => ∃ i : Nat, s8 = .int .i64 (i : Nat) ∧ i ≤ ps.length ∧ ps.length - i ≤ gm ∧ Hid (NoQ ps q i) ∧ Hid (Hq w wr [] []))
  case atStart => exact ⟨0, rfl, by omega, by omega, hide (NoQ.zero ps q), LL⟩
  case round =>
    clear LL
    obtain ⟨i, rfl, hil, hgm, HD, LL⟩ := hrel
    by_cases hlt : i < ps.length
    · have dlt : decide ((i : Int) < (ps.length : Int)) = true := decide_eq_true (by omega)
      have hw1 : IntKind.i64.wrap ((i : Int) + 1) = (i : Int) + 1 := by have := unhide HZ; rw [IntKind.wrap_i64]; omega
      obtain ⟨p, hp⟩ : ∃ p, ps[i]? = some p := ⟨_, List.getElem?_eq_getElem hlt⟩
      obtain ⟨_, _, b, off, SA, sc, hA, hb, hrp, hrg⟩ := (unhide HR) i p hp
      subst hA
      have HA2 : Hid (∀ X, Fr w X [] → X.rangeAt b (off + i * 8) (p.cs SA sc)) := hide (fun X hX => rangeAt_fr hrg hb hX)
      have HC := hide ((unhide HCC) i p SA sc hp hrp)
      simp only [sagg] at HC
      have HLT := hide hlt
      clear hil hlt hb hrg
      go_wp2_with (first | go_skip | ((with_reducible show wpList _ _ _ _ _ _); first | ((refine rd (by rfl) (ex_lenG 22 34 Tryz.underlying22 rfl rfl) ?_); simp only [Act.put, List.setIfInBounds_toArray, List.set_cons_succ, List.set_cons_zero]) | ((refine rd (by rfl) (ex_indexG 22 8 i unSs idSs rfl rfl rfl (unhide HLT)) ?_); simp only [Act.put, List.setIfInBounds_toArray, List.set_cons_succ, List.set_cons_zero]) | ((refine rd (by rfl) (ex_loadR (vs := p.cs SA sc) 34 8 rwS szS rfl rfl (unhide HA2 _ (unhide LL).fr) rfl) ?_); simp only [Act.put, List.setIfInBounds_toArray, List.set_cons_succ, List.set_cons_zero])))
      refine (unhide HC _ (unhide LL).fr).mono ?_
      rintro e X5 ⟨rfl, hb5⟩
      replace LL := hide ((unhide LL).on hb5)
      clear hb5
      cases hqp : q p
      · have HD2 := hide ((unhide HD).step hp hqp)
        clear hqp hp HD
        go_wp2_with (first | go_skip | ((with_reducible show wpList _ _ _ _ _ _); first | ((refine rd (by rfl) (ex_lenG 22 34 Tryz.underlying22 rfl rfl) ?_); simp only [Act.put, List.setIfInBounds_toArray, List.set_cons_succ, List.set_cons_zero]) | ((refine rd (by rfl) (ex_indexG 22 8 i unSs idSs rfl rfl rfl (unhide HLT)) ?_); simp only [Act.put, List.setIfInBounds_toArray, List.set_cons_succ, List.set_cons_zero]) | ((refine rd (by rfl) (ex_loadR (vs := p.cs SA sc) 34 8 rwS szS rfl rfl (unhide HA2 _ (unhide LL).fr) rfl) ?_); simp only [Act.put, List.setIfInBounds_toArray, List.set_cons_succ, List.set_cons_zero])))
        go_roundg (ps.length - (i + 1))
        case measure => have := unhide HLT; omega
        case rel => exact ⟨i + 1, by go_num, by have := unhide HLT; omega, by omega, HD2, LL⟩
      · have HF := hide (qx_at hp hqp (unhide HD))
        clear hqp hp HD
        go_wp2_with (first | go_skip | ((with_reducible show wpList _ _ _ _ _ _); first | ((refine rd (by rfl) (ex_lenG 22 34 Tryz.underlying22 rfl rfl) ?_); simp only [Act.put, List.setIfInBounds_toArray, List.set_cons_succ, List.set_cons_zero]) | ((refine rd (by rfl) (ex_indexG 22 8 i unSs idSs rfl rfl rfl (unhide HLT)) ?_); simp only [Act.put, List.setIfInBounds_toArray, List.set_cons_succ, List.set_cons_zero]) | ((refine rd (by rfl) (ex_loadR (vs := p.cs SA sc) 34 8 rwS szS rfl rfl (unhide HA2 _ (unhide LL).fr) rfl) ?_); simp only [Act.put, List.setIfInBounds_toArray, List.set_cons_succ, List.set_cons_zero])))
        go_ret
        exact ⟨by rw [unhide HF]; rfl, (unhide LL).fr.below⟩
    · obtain rfl : i = ps.length := by omega
      have HF := hide (qx_no (unhide HD))
      clear hlt hil HD
      go_wp2_with (first | go_skip | ((with_reducible show wpList _ _ _ _ _ _); first | ((refine rd (by rfl) (ex_lenG 22 34 Tryz.underlying22 rfl rfl) ?_); simp only [Act.put, List.setIfInBounds_toArray, List.set_cons_succ, List.set_cons_zero])))
      go_ret
      exact ⟨by rw [unhide HF]; rfl, (unhide LL).fr.below⟩
set_option maxRecDepth 100000 in
theorem hasIxD (B : Option Addr) (cap : Nat) (ps : List SH) (q : SH → Bool) (w : World) (hR : ReadsS w B ps) (hz : ps.length ≤ 733007751850) (HC : ∀ (j : Nat) (p : SH) (SA : Option Addr) (sc : Nat), ps[j]? = some p → ReadsP w SA p.ps → ∀ X, Fr w X [] → Calls Tryz.prog 30 #[p.agg SA sc] X fun e X' => e = .returned (.bool (q p)) ∧ Below X.heap.size X X') : Calls Tryz.prog 29 #[.slice B ps.length cap, .func (.func 30) #[] #[]] w fun e w' => e = .returned (.bool (ps.any q)) ∧ Below w.heap.size w w' := by
  have HI := hide (IxD B cap ps q w hR hz HC)
  have hq := oI_any ps q
  clear HC hR hz
  generalize oI (ps.findIdx? q) = r at *
  generalize ps.any q = t at *
  go_enter Tryz.func29, Tryz.ntmps29
  go_wp2_with fail
  refine (unhide HI).mono ?_
  rintro e X5 ⟨rfl, hb5⟩
  have HB := hide hb5
  clear hb5
  go_wp2
  go_ret
  exact ⟨by simp [← hq], unhide HB⟩
end Go.Proofs.YtcflglloopgieaaGreatDoor

/-! Ih -/
namespace Go.Proofs.YtcflglloopgieaaGreatDoor
open Go Go.Proofs Go.Maps Go.RowKit FM
set_option linter.unusedSimpArgs false
set_option linter.unusedVariables false
set_option maxHeartbeats 1000000
theorem alV {ops : Array Oper} {rest : List Oper} {Q : Exit → Act → World → Prop} {w w0 : World} {a : Act} {o : Oper} {E : List Nat} {L : List (Nat × List Value)} {v : Value} (t : TypeId) (cs : List Value) (hw : Region.wanted o (yielded ops a.tmps) = true) (ho : o.op = .alloc t) (hz : ∀ w, (zeroValue t).run Tryz.prog w = .ok v w) (hv : v.cells = cs.toArray) (hc : 0 < cs.length) (hL : Hq w0 w E L)
    (h : ∀ X B, B = w.heap.size → Hq w0 X E (L ++ [(B, cs)]) → Below w.heap.size w X → wpList Tryz.prog ops Q rest (a.put o.dst (.pointer (some ⟨B, 0, none⟩))) X) : wpList Tryz.prog ops Q (o :: rest) a w := by
  refine BigFrame.wpList_want hw fun K hK => ?_
  have hP := hK _ _ (h _ _ rfl (hL.new cs t hc) ((Below.refl _ _).alloc (Nat.le_refl _) _))
  unfold Oper.wp execOp
  simp only [ho]
  unfold Value.cells at hv
  simp [go_sem, hz, hv]
  exact hP
theorem MapI.fr {w X : World} {b n sz : Nat} {F : KK → Option Nat} (h : MapI w b n sz F) (hf : Fr w X []) : MapI X b n sz F := h.block (hf.block b h.lt (by simp))
theorem Holds.fr {w X : World} {b : Nat} {cs : List Value} (h : Holds w b cs) (hl : 0 < cs.length) (hf : Fr w X []) : Holds X b cs := h.block (hf.block b (h.lt hl) (by simp))
set_option maxRecDepth 100000 in
theorem moreKeys1_any (p : PR) (BM M n sz : Nat) (G : KK → Option Nat) (w : World) (hk : OkK p.k) (hB : Holds w BM [.map (some M)]) (hM : MapI w M n sz G) : Calls Tryz.prog 58 #[p.agg, .pointer (some ⟨BM, 0, none⟩)] w fun e w' => e = .returned (.bool (!(G p.k).isSome)) ∧ Below w.heap.size w w' := by
  have LL := hide (Hq.nil w [])
  have HB := hide (fun X hX => hB.fr (X := X) (Nat.succ_pos _) hX)
  have HM := hide (fun X hX => hM.fr (X := X) hX)
  have HOK := hide hk
  clear hB hM hk
  rw [pagg]
  go_enter Tryz.func58, Tryz.ntmps58
  go_wp2_with (first | go_skip | ((with_reducible show wpList _ _ _ _ _ _); first | ((refine bx 61 (p.cs) (by rfl) rfl rfl rfl (Nat.succ_pos _) (unhide LL) ?_); intro X1 B1 hE1 L1 hb1; have hB1 := hide (Nat.le_trans (unhide LL).fr.size (Nat.le_of_eq hE1.symm)); replace LL := hide L1; clear L1 hb1 hE1; simp only [Act.put, List.setIfInBounds_toArray, List.set_cons_succ, List.set_cons_zero]) | ((refine rd (by rfl) (ex_load1 85 Tryz.isAgg85 rfl rfl (unhide HB _ (unhide LL).fr) rfl) ?_); simp only [Act.put, List.setIfInBounds_toArray, List.set_cons_succ, List.set_cons_zero]) | ((refine rd (by rfl) (ex_loadN (vs := p.k.cs) 56 2 rwK szK rfl rfl ((unhide LL).get 0 rfl) rfl rfl) ?_); simp only [Act.put, List.setIfInBounds_toArray, List.set_cons_succ, List.set_cons_zero]) | ((refine rd (by rfl) (ex_lookI rfl rfl rfl (unhide HM _ (unhide LL).fr) (unhide HOK) rfl) ?_); simp only [Act.put, List.setIfInBounds_toArray, List.set_cons_succ, List.set_cons_zero])))
  go_ret
  exact ⟨by simp, (unhide LL).fr.below⟩
def mkV (c : CO) : Bool := !c.was.x && c.is.ps.any (fun p => !(fO c.was.ps p.k).isSome)
set_option maxRecDepth 100000 in
theorem moreKeys_any (c : CO) (w : World) (hW : ReadsP w c.wA c.was.ps) (hI : ReadsP w c.iA c.is.ps) (hz : c.was.ps.length ≤ 733007751850) (hz2 : c.is.ps.length ≤ 733007751850) : Calls Tryz.prog 40 #[c.agg] w fun e w' => e = .returned (.bool (mkV c)) ∧ Below w.heap.size w w' := by
  have LL := hide (Hq.nil w [])
  have HPL := hide (fun w hR => places_any c.wA c.wc c.was.ps w hR hz)
  have HW := hide hW
  have HI := hide hI
  have HZ2 := hide hz2
  clear hW hI hz hz2
  have H6 := hide (co_at6 c)
  have H7 : Hid (c.cs[7]? = some (.slice c.wA c.was.ps.length c.wc)) := hide rfl
  have H15 : Hid (c.cs[15]? = some (.slice c.iA c.is.ps.length c.ic)) := hide rfl
  unfold mkV
  rw [coagg]
  have hl : 0 < c.cs.length := Nat.succ_pos _
  generalize c.cs = cc at *
  generalize c.was.x = x at *
  have HL := hide hl
  clear hl
  cases x
  · go_enter Tryz.func40, Tryz.ntmps40
    go_wp2_with (first | go_skip | ((with_reducible show wpList _ _ _ _ _ _); first | ((refine bx 46 cc (by rfl) rfl rfl rfl (unhide HL) (unhide LL) ?_); intro X1 B1 hE1 L1 hb1; replace LL := hide L1; clear L1 hb1 hE1; simp only [Act.put, List.setIfInBounds_toArray, List.set_cons_succ, List.set_cons_zero]) | ((refine rd (by rfl) (ex_load1 4 Tryz.isAgg4 rfl rfl ((unhide LL).get 0 rfl) (unhide H6)) ?_); simp only [Act.put, List.setIfInBounds_toArray, List.set_cons_succ, List.set_cons_zero]) | ((refine rd (by rfl) (ex_load1 32 Tryz.isAgg32 rfl rfl ((unhide LL).get 0 rfl) (unhide H7)) ?_); simp only [Act.put, List.setIfInBounds_toArray, List.set_cons_succ, List.set_cons_zero])))
    refine (unhide HPL _ ((unhide HW).fr (unhide LL).fr)).mono ?_
    rintro e X4 ⟨M, n, rfl, hM0, hm, hb4⟩
    have HM := hide hm
    have hM1 := hide (Nat.le_trans (unhide LL).fr.size hM0)
    replace LL := hide ((unhide LL).on hb4)
    clear hm hM0 hb4
    go_wp2_with (first | go_skip | ((with_reducible show wpList _ _ _ _ _ _); first | ((refine rd (by rfl) (ex_load1 4 Tryz.isAgg4 rfl rfl ((unhide LL).get 0 rfl) (unhide H6)) ?_); simp only [Act.put, List.setIfInBounds_toArray, List.set_cons_succ, List.set_cons_zero]) | ((refine rd (by rfl) (ex_load1 32 Tryz.isAgg32 rfl rfl ((unhide LL).get 0 rfl) (unhide H7)) ?_); simp only [Act.put, List.setIfInBounds_toArray, List.set_cons_succ, List.set_cons_zero]) | ((refine alV (v := .map none) 85 [.map none] (by rfl) rfl (fun w => by kernel_rfl) rfl (Nat.succ_pos _) (unhide LL) ?_); intro X2 B2 hE2 L2 hb2; have hB2 := hide (Nat.le_trans (unhide LL).fr.size (Nat.le_of_eq hE2.symm)); have hNE : Hid (M ≠ B2) := hide (Nat.ne_of_lt (Nat.lt_of_lt_of_le (unhide HM).lt (Nat.le_of_eq hE2.symm))); replace HM := hide ((unhide HM).on hb2); replace LL := hide L2; clear L2 hb2 hE2; simp only [Act.put, List.setIfInBounds_toArray, List.set_cons_succ, List.set_cons_zero]) | ((refine st (vs := [.map (some M)]) 1 85 (by rfl) rfl rfl rfl rfl (by simp [Value.oneCell']) szM (unhide LL) rfl (by simp [cput]) (Or.inr (unhide hB2)) ?_); intro X3 L3 hf3 hs3; replace HM := hide ((unhide HM).far hf3 (unhide hNE)); replace LL := hide L3; clear L3 hf3 hs3; simp only [Act.put, List.setIfInBounds_toArray, List.set_cons_succ, List.set_cons_zero]) | ((refine rd (by rfl) (ex_load1 32 Tryz.isAgg32 rfl rfl ((unhide LL).get 0 rfl) (unhide H15)) ?_); simp only [Act.put, List.setIfInBounds_toArray, List.set_cons_succ, List.set_cons_zero])))
    refine (hasIxM c.iA c.ic c.is.ps (.pointer (some ⟨B2, 0, none⟩)) (fun p => !(fO c.was.ps p.k).isSome) _ ((unhide HI).fr (unhide LL).fr) (unhide HZ2) (fun j p hp X hX => moreKeys1_any p B2 M n _ (fO c.was.ps) X ((unhide HI) j p hp).1.2 (((unhide LL).get 1 rfl).fr (Nat.succ_pos _) hX) ((unhide HM).fr hX))).mono ?_
    rintro e X5 ⟨rfl, hb5⟩
    replace LL := hide ((unhide LL).on hb5)
    clear hb5
    go_wp2_with (first | go_skip | ((with_reducible show wpList _ _ _ _ _ _); first | ((refine rd (by rfl) (ex_load1 4 Tryz.isAgg4 rfl rfl ((unhide LL).get 0 rfl) (unhide H6)) ?_); simp only [Act.put, List.setIfInBounds_toArray, List.set_cons_succ, List.set_cons_zero])))
    go_ret
    exact ⟨by simp, (unhide LL).fr.below⟩
  · go_enter Tryz.func40, Tryz.ntmps40
    go_wp2_with (first | go_skip | ((with_reducible show wpList _ _ _ _ _ _); first | ((refine bx 46 cc (by rfl) rfl rfl rfl (unhide HL) (unhide LL) ?_); intro X1 B1 hE1 L1 hb1; replace LL := hide L1; clear L1 hb1 hE1; simp only [Act.put, List.setIfInBounds_toArray, List.set_cons_succ, List.set_cons_zero]) | ((refine rd (by rfl) (ex_load1 4 Tryz.isAgg4 rfl rfl ((unhide LL).get 0 rfl) (unhide H6)) ?_); simp only [Act.put, List.setIfInBounds_toArray, List.set_cons_succ, List.set_cons_zero])))
    go_ret
    exact ⟨by simp, (unhide LL).fr.below⟩
def seV (s : SH) : Bool := !s.x && !s.ps.any looseP
def frV (s : SH) : Bool := seV s && !s.ps.any chgP
set_option maxRecDepth 100000 in
theorem sealed_any (s : SH) (SA : Option Addr) (sc : Nat) (w : World) (hW : ReadsP w SA s.ps) (hz : s.ps.length ≤ 733007751850) : Calls Tryz.prog 11 #[s.agg SA sc] w fun e w' => e = .returned (.bool (seV s)) ∧ Below w.heap.size w w' := by
  have LL := hide (Hq.nil w [])
  have HW := hide hW
  have HZ := hide hz
  clear hW hz
  have H6 : Hid ((s.cs SA sc)[6]? = some (.bool s.x)) := hide rfl
  unfold seV
  rw [sagg]
  generalize s.x = x at *
  cases x
  · go_enter Tryz.func11, Tryz.ntmps11
    go_wp2_with (first | go_skip | ((with_reducible show wpList _ _ _ _ _ _); first | ((refine bx 34 (s.cs SA sc) (by rfl) rfl rfl rfl (Nat.succ_pos _) (unhide LL) ?_); intro X1 B1 hE1 L1 hb1; replace LL := hide L1; clear L1 hb1 hE1; simp only [Act.put, List.setIfInBounds_toArray, List.set_cons_succ, List.set_cons_zero]) | ((refine rd (by rfl) (ex_load1 4 Tryz.isAgg4 rfl rfl ((unhide LL).get 0 rfl) (unhide H6)) ?_); simp only [Act.put, List.setIfInBounds_toArray, List.set_cons_succ, List.set_cons_zero]) | ((refine rd (by rfl) (ex_load1 32 Tryz.isAgg32 rfl rfl ((unhide LL).get 0 rfl) rfl) ?_); simp only [Act.put, List.setIfInBounds_toArray, List.set_cons_succ, List.set_cons_zero])))
    refine (hasIxL SA sc s.ps looseP _ ((unhide HW).fr (unhide LL).fr) (unhide HZ) (fun j p hp X hX => loose_any p X)).mono ?_
    rintro e X5 ⟨rfl, hb5⟩
    replace LL := hide ((unhide LL).on hb5)
    clear hb5
    go_wp2_with (first | go_skip | ((with_reducible show wpList _ _ _ _ _ _); first | ((refine rd (by rfl) (ex_load1 4 Tryz.isAgg4 rfl rfl ((unhide LL).get 0 rfl) (unhide H6)) ?_); simp only [Act.put, List.setIfInBounds_toArray, List.set_cons_succ, List.set_cons_zero])))
    go_ret
    exact ⟨by simp, (unhide LL).fr.below⟩
  · go_enter Tryz.func11, Tryz.ntmps11
    go_wp2_with (first | go_skip | ((with_reducible show wpList _ _ _ _ _ _); first | ((refine bx 34 (s.cs SA sc) (by rfl) rfl rfl rfl (Nat.succ_pos _) (unhide LL) ?_); intro X1 B1 hE1 L1 hb1; replace LL := hide L1; clear L1 hb1 hE1; simp only [Act.put, List.setIfInBounds_toArray, List.set_cons_succ, List.set_cons_zero]) | ((refine rd (by rfl) (ex_load1 4 Tryz.isAgg4 rfl rfl ((unhide LL).get 0 rfl) (unhide H6)) ?_); simp only [Act.put, List.setIfInBounds_toArray, List.set_cons_succ, List.set_cons_zero]) | ((refine rd (by rfl) (ex_load1 32 Tryz.isAgg32 rfl rfl ((unhide LL).get 0 rfl) rfl) ?_); simp only [Act.put, List.setIfInBounds_toArray, List.set_cons_succ, List.set_cons_zero])))
    go_ret
    exact ⟨by simp, (unhide LL).fr.below⟩
set_option maxRecDepth 100000 in
theorem frozen_any (s : SH) (SA : Option Addr) (sc : Nat) (w : World) (hW : ReadsP w SA s.ps) (hz : s.ps.length ≤ 733007751850) : Calls Tryz.prog 13 #[s.agg SA sc] w fun e w' => e = .returned (.bool (frV s)) ∧ Below w.heap.size w w' := by
  have LL := hide (Hq.nil w [])
  have HW := hide hW
  have HZ := hide hz
  have HS := hide (fun w hW => sealed_any s SA sc w hW hz)
  clear hW hz
  unfold frV
  simp only [sagg] at HS ⊢
  generalize seV s = q at *
  go_enter Tryz.func13, Tryz.ntmps13
  go_wp2_with (first | go_skip | ((with_reducible show wpList _ _ _ _ _ _); first | ((refine bx 34 (s.cs SA sc) (by rfl) rfl rfl rfl (Nat.succ_pos _) (unhide LL) ?_); intro X1 B1 hE1 L1 hb1; replace LL := hide L1; clear L1 hb1 hE1; simp only [Act.put, List.setIfInBounds_toArray, List.set_cons_succ, List.set_cons_zero]) | ((refine rd (by rfl) (ex_loadN (vs := s.cs SA sc) 34 8 rwS szS rfl rfl ((unhide LL).get 0 rfl) rfl rfl) ?_); simp only [Act.put, List.setIfInBounds_toArray, List.set_cons_succ, List.set_cons_zero])))
  refine (unhide HS _ ((unhide HW).fr (unhide LL).fr)).mono ?_
  rintro e X5 ⟨rfl, hb5⟩
  replace LL := hide ((unhide LL).on hb5)
  clear hb5
  cases q
  · go_wp2_with (first | go_skip | ((with_reducible show wpList _ _ _ _ _ _); first | ((refine rd (by rfl) (ex_load1 32 Tryz.isAgg32 rfl rfl ((unhide LL).get 0 rfl) rfl) ?_); simp only [Act.put, List.setIfInBounds_toArray, List.set_cons_succ, List.set_cons_zero])))
    go_ret
    exact ⟨by simp, (unhide LL).fr.below⟩
  · go_wp2_with (first | go_skip | ((with_reducible show wpList _ _ _ _ _ _); first | ((refine rd (by rfl) (ex_load1 32 Tryz.isAgg32 rfl rfl ((unhide LL).get 0 rfl) rfl) ?_); simp only [Act.put, List.setIfInBounds_toArray, List.set_cons_succ, List.set_cons_zero])))
    refine (hasIxC SA sc s.ps chgP _ ((unhide HW).fr (unhide LL).fr) (unhide HZ) (fun j p hp X hX => changeable_any p X)).mono ?_
    rintro e X6 ⟨rfl, hb6⟩
    replace LL := hide ((unhide LL).on hb6)
    clear hb6
    go_wp2_with (first | go_skip | ((with_reducible show wpList _ _ _ _ _ _); first | ((refine rd (by rfl) (ex_load1 32 Tryz.isAgg32 rfl rfl ((unhide LL).get 0 rfl) rfl) ?_); simp only [Act.put, List.setIfInBounds_toArray, List.set_cons_succ, List.set_cons_zero])))
    go_ret
    exact ⟨by simp, (unhide LL).fr.below⟩
end Go.Proofs.YtcflglloopgieaaGreatDoor
