import Derived.Test.YtcflglloopgieaaIc
namespace Go.Proofs.Ytcflglloopgieaa
open Go Go.Proofs Go.Maps Go.RowKit FM
set_option linter.unusedSimpArgs false
set_option linter.unusedVariables false
set_option maxHeartbeats 1000000
theorem gskipS {md : Region.Mode} {ops : Array Oper} {Q : Exit → Act → World → Prop} {S : World → Prop} {w : World} {fuel : Nat} {listed : Array Bool} {a : Act} {o : Oper} (i : Nat) (dst : Option Tmp) (hi : ops[i]? = some o) (hs : Region.noSelect ops = true) (hf : Region.free md ops listed i = true) (hr : (Region.ready md ops listed).contains i = true)
    (hQ : ∀ c a w, Q (.panic c) (a.put dst undef) w → Q (.panic c) a w) (hd : o.dst = dst) (hw : Region.wanted o (yielded ops a.tmps) = false)
    (hS : S w) (h : wpAnyH Try.prog md ops Q S fuel (listed.setIfInBounds i true) (a.put dst undef) w) : wpAnyH Try.prog md ops Q S (fuel + 1) listed a w := by
  subst hd
  exact wpAnyH_take hi hs hf hr hQ (Or.inr ⟨hw, rfl⟩) hS h
/-- Where a key stands first; the length, if it doesn't. -/
def fx (l : List PR) (k : KK) : Nat := l.findIdx (fun p => decide (p.k = k))
def fI (l : List PR) (k : KK) : Int := if fx l k < l.length then (fx l k : Int) else -1
def NoK (l : List PR) (k : KK) (i : Nat) : Prop := ∀ (j : Nat) (q : PR), j < i → l[j]? = some q → q.k ≠ k
theorem NoK.zero (l : List PR) (k : KK) : NoK l k 0 := fun j q hj => absurd hj (Nat.not_lt_zero _)
theorem NoK.step {l : List PR} {k : KK} {i : Nat} {p : PR} (h : NoK l k i) (hp : l[i]? = some p) (hk : p.k ≠ k) : NoK l k (i + 1) := fun j q hj hq => by
  rcases Nat.lt_succ_iff_lt_or_eq.1 hj with h1 | h1
  · exact h j q h1 hq
  · subst h1
    rw [hp] at hq
    cases hq
    exact hk
theorem fx_at {l : List PR} {k : KK} {i : Nat} {p : PR} (hp : l[i]? = some p) (hk : p.k = k) (hlt : NoK l k i) : fI l k = (i : Int) ∧ fx l k = i := by
  obtain ⟨hi, rfl⟩ := List.getElem?_eq_some_iff.1 hp
  have e : fx l k = i := by
    unfold fx
    rw [List.findIdx_eq hi]
    refine ⟨by simpa using hk, fun j hj => ?_⟩
    have := hlt j _ hj (List.getElem?_eq_getElem (by omega))
    simpa using this
  refine ⟨?_, e⟩
  unfold fI
  rw [e, if_pos hi]
theorem fx_no {l : List PR} {k : KK} (hlt : NoK l k l.length) : fI l k = -1 ∧ fx l k = l.length := by
  have e : fx l k = l.length := by
    unfold fx
    rw [List.findIdx_eq_length]
    intro x hx
    obtain ⟨j, hj⟩ := List.getElem?_of_mem hx
    simpa using hlt j x (List.getElem?_eq_some_iff.1 hj).1 hj
  refine ⟨?_, e⟩
  unfold fI
  rw [e, if_neg (Nat.lt_irrefl _)]
set_option maxHeartbeats 2000000 in
set_option maxRecDepth 100000 in
theorem find_any (B : Option Addr) (cap : Nat) (ps : List PR) (k : KK) (w : World) (hR : ReadsP w B ps) (hz : ps.length ≤ 733007751850) : Calls Try.prog 15 #[.slice B ps.length cap, k.agg] w fun e w' => e = .returned (.int .i64 (fI ps k)) ∧ Below w.heap.size w w' := by
  have LL := hide (Hq.nil w [])
  have HR := hide hR
  have HZ := hide hz
  clear hR hz
  rw [kagg]
  go_enter Try.func15, Try.ntmps15
  go_wp2_with (first | go_skip | ((with_reducible show wpList _ _ _ _ _ _); first | ((refine bx 30 (k.cs) (by rfl) rfl rfl rfl (Nat.succ_pos _) (unhide LL) ?_); intro X1 B1 hE1 L1 hb1; have hB1 := hide (Nat.le_trans (unhide LL).fr.size (Nat.le_of_eq hE1.symm)); replace LL := hide L1; clear L1 hb1 hE1; simp only [Act.put, List.setIfInBounds_toArray, List.set_cons_succ, List.set_cons_zero]) | ((refine rd (by rfl) (ex_lenG 46 56 Try.underlying46 rfl rfl) ?_); simp only [Act.put, List.setIfInBounds_toArray, List.set_cons_succ, List.set_cons_zero])))
  go_loopg [5] ps.length (fun gm s5 wr => ∃ i : Nat, s5 = .int .i64 (i : Nat) ∧ i ≤ ps.length ∧ ps.length - i ≤ gm ∧ Hid (NoK ps k i) ∧ Hid (Hq w wr [] [(B1, k.cs)]))
  case atStart => exact ⟨0, rfl, by omega, by omega, hide (NoK.zero ps k), LL⟩
  case round =>
    clear LL
    obtain ⟨i, rfl, hil, hgm, HD, LL⟩ := hrel
    by_cases hlt : i < ps.length
    · have dlt : decide ((i : Int) < (ps.length : Int)) = true := decide_eq_true (by omega)
      have hw1 : IntKind.i64.wrap ((i : Int) + 1) = (i : Int) + 1 := by have := unhide HZ; rw [IntKind.wrap_i64]; omega
      obtain ⟨p, hp⟩ : ∃ p, ps[i]? = some p := ⟨_, List.getElem?_eq_getElem hlt⟩
      obtain ⟨_, b, off, hA, hb, hrg⟩ := (unhide HR) i p hp
      subst hA
      have HLT := hide hlt
      clear hil
      go_wp2_with (first | go_skip | ((with_reducible show wpList _ _ _ _ _ _); first | ((refine rd (by rfl) (ex_lenG 46 56 Try.underlying46 rfl rfl) ?_); simp only [Act.put, List.setIfInBounds_toArray, List.set_cons_succ, List.set_cons_zero])))
      have hq0 : Hq w _ [] [(B1, k.cs)] := (unhide LL).drew
      refine wp_region_held_drew (P := Try.prog) (S := fun X => Hq w X [] [(B1, k.cs)]) (by kernel_rfl) hq0 (fun hS0 => ?_)
      refine gsem 0 (some 12) (.slice (some ⟨b, off, none⟩) ps.length cap) rfl (by kernel_rfl) (by kernel_rfl) (by kernel_rfl) (fun _ _ _ h => h) (by kernel_rfl) (by kernel_rfl) (fun _ _ => by kernel_rfl) hq0 ?_
      simp only [Act.put, List.setIfInBounds_toArray, List.set_cons_succ, List.set_cons_zero]
      refine gsem 1 (some 13) (.int .i64 (i : Nat)) rfl (by kernel_rfl) (by kernel_rfl) (by kernel_rfl) (fun _ _ _ h => h) (by kernel_rfl) (by kernel_rfl) (fun _ _ => by kernel_rfl) hq0 ?_
      simp only [Act.put, List.setIfInBounds_toArray, List.set_cons_succ, List.set_cons_zero]
      refine gsem 2 (some 14) (.pointer (some ⟨b, off + i * 20, none⟩)) rfl (by kernel_rfl) (by kernel_rfl) (by kernel_rfl) (fun _ _ _ h => h) (by kernel_rfl) (by kernel_rfl) (fun X hX => ex_indexG 46 20 i unPs idPs rfl rfl rfl hlt) hq0 ?_
      simp only [Act.put, List.setIfInBounds_toArray, List.set_cons_succ, List.set_cons_zero]
      refine gsem 3 (some 15) (.pointer (some ⟨b, off + i * 20, none⟩)) rfl (by kernel_rfl) (by kernel_rfl) (by kernel_rfl) (fun _ _ _ h => h) (by kernel_rfl) (by kernel_rfl) (fun _ _ => by kernel_rfl) hq0 ?_
      simp only [Act.put, List.setIfInBounds_toArray, List.set_cons_succ, List.set_cons_zero]
      refine gsem 4 (some 16) (.agg p.k.cs.toArray) rfl (by kernel_rfl) (by kernel_rfl) (by kernel_rfl) (fun _ _ _ h => h) (by kernel_rfl) (by kernel_rfl) (fun X hX => ex_loadR (vs := p.k.cs) 30 2 rwK szK rfl rfl (range_left (a := p.k.cs) (c := p.d.cs) (rangeAt_fr hrg hb hX.fr)) rfl) hq0 ?_
      simp only [Act.put, List.setIfInBounds_toArray, List.set_cons_succ, List.set_cons_zero]
      refine gsem 5 (some 17) (.agg k.cs.toArray) rfl (by kernel_rfl) (by kernel_rfl) (by kernel_rfl) (fun _ _ _ h => h) (by kernel_rfl) (by kernel_rfl) (fun X hX => ex_loadN (vs := k.cs) 30 2 rwK szK rfl rfl (hX.get 0 rfl) rfl rfl) hq0 ?_
      simp only [Act.put, List.setIfInBounds_toArray, List.set_cons_succ, List.set_cons_zero]
      refine gsem 6 (some 18) (.bool (decide (p.k = k))) rfl (by kernel_rfl) (by kernel_rfl) (by kernel_rfl) (fun _ _ _ h => h) (by kernel_rfl) (by kernel_rfl) (fun X hX => ex_eql41 p.k k rfl rfl rfl) hq0 ?_
      simp only [Act.put, List.setIfInBounds_toArray, List.set_cons_succ, List.set_cons_zero]
      refine wpAnyH_done (by kernel_rfl) ?_ _
      try simp only [Act.put, List.setIfInBounds_toArray, List.set_cons_succ, List.set_cons_zero]
      replace LL := hide hq0
      clear hq0 hS0 hb hrg hlt
      by_cases hkk : p.k = k
      · have HF := hide (fx_at hp hkk (unhide HD)).1
        rw [decide_eq_true hkk]
        clear hkk hp
        go_wp2
        go_ret
        exact ⟨by rw [unhide HF]; rfl, (unhide LL).fr.below⟩
      · have HD2 := hide ((unhide HD).step hp hkk)
        rw [decide_eq_false hkk]
        clear hkk hp HD
        go_wp2
        go_roundg (ps.length - (i + 1))
        case measure => have := unhide HLT; omega
        case rel => exact ⟨i + 1, by go_num, by have := unhide HLT; omega, by omega, HD2, LL⟩
    · obtain rfl : i = ps.length := by omega
      have HF := hide (fx_no (unhide HD)).1
      clear hlt hil HD
      go_wp2_with (first | go_skip | ((with_reducible show wpList _ _ _ _ _ _); first | ((refine rd (by rfl) (ex_lenG 46 56 Try.underlying46 rfl rfl) ?_); simp only [Act.put, List.setIfInBounds_toArray, List.set_cons_succ, List.set_cons_zero])))
      go_ret
      exact ⟨by rw [unhide HF]; rfl, (unhide LL).fr.below⟩
theorem ex_neI {o : Oper} {a : Act} {w : World} {x y : Operand} {n m : Int} {r : Bool} (ho : o.op = .binOp .neq 3 x y 3) (hx : a.eval x = .int .i64 n) (hc : a.eval y = .int .i64 m) (h : (n != m) = r) : (execOp a.eval o).run Try.prog w = .ok (.value (.bool r)) w := by
  unfold execOp
  simp only [ho, hx, hc]
  simp [go_sem, eqGuard, h]
end Go.Proofs.Ytcflglloopgieaa
