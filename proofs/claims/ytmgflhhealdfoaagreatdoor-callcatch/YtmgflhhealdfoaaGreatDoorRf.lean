import Derived.Test.YtmgflhhealdfoaaGreatDoorRe
set_option linter.all false
namespace Go.Proofs.YtmgflhhealdfoaaGreatDoor
set_option maxHeartbeats 1000000
section
open Go Go.Proofs Go.Maps Go.RowKit FM
attribute [local go_sem] mm_GetOwnProperty mm_DefineOwnProperty mm_Get ta_caller ta_builder
theorem ex_loadR {o : Oper} {a : Act} {W : World} {x : Operand} {B p : Nat} {vs : List Value} (t : TypeId) (n : Nat) (hu : ∃ d, Tryz.prog.underlying t = some d ∧ d.isRow = true) (hi : (Tryz.prog.info? t).map (·.size) = some n) (ho : o.op = .load t x) (hx : a.eval x = .pointer (some ⟨B, p, none⟩)) (h0 : W.rangeAt B p vs) (hn : vs.length = n) : (execOp a.eval o).run Tryz.prog W = .ok (.value (.agg vs.toArray)) W := by
  obtain ⟨d, hu, hd⟩ := hu
  unfold execOp
  simp only [ho, hx, Instr.loadAt, Instr.sureAddr, Sem.run_bind, Sem.run_pure, Result.andThen_ok, run_loadVar_mid W B p t vs d h0 hu hd (by rw [hi, hn])]
theorem range_left {w : World} {b p : Nat} {a c : List Value} (h : w.rangeAt b p (a ++ c)) : w.rangeAt b p a := fun j v hv => h j v (by rw [List.getElem?_append_left (List.getElem?_eq_some_iff.1 hv).1]; exact hv)
theorem range_right {w : World} {b p : Nat} {a c : List Value} (h : w.rangeAt b p (a ++ c)) : w.rangeAt b (p + a.length) c := fun j v hv => by
  have := h (a.length + j) v (by rw [List.getElem?_append_right (by omega)]; simpa using hv)
  rwa [← Nat.add_assoc] at this
theorem ex_indexG {o : Oper} {a : Act} {w : World} {x ix : Operand} {g off n cap : Nat} (t : TypeId) (sz j : Nat) (hk : Tryz.prog.underlying t = some (.slice (Tryz.prog.elem t))) (he : ∀ w, (sizeOf (Tryz.prog.elem t)).run Tryz.prog w = .ok sz w) (ho : o.op = .indexAddr t x ix) (hx : a.eval x = .slice (some ⟨g, off, none⟩) n cap) (hix : a.eval ix = .int .i64 (j : Nat)) (hj : j < n) : (execOp a.eval o).run Tryz.prog w = .ok (.value (.pointer (some ⟨g, off + j * sz, none⟩))) w := by
  have h1 : (Instr.indexAt t (.slice (some ⟨g, off, none⟩) n cap) (.int .i64 (j : Nat))).run Tryz.prog w = .ok (.pointer (some ⟨g, off + j * sz, none⟩)) w := by
    rw [run_indexAt_slice (h := hk), if_pos ⟨by omega, by omega⟩, he]
    have e2 : (Addr.add ⟨g, off, none⟩ ((j : Int).toNat * sz)) = ⟨g, off + j * sz, none⟩ := by
      rw [Addr.add_mid]
      simp
    show Result.ok (Value.pointer (some (Addr.add ⟨g, off, none⟩ ((j : Int).toNat * sz)))) w = _
    rw [e2]
  unfold execOp
  simp only [ho, hx, hix]
  simp [h1]
set_option linter.unusedSimpArgs false
set_option linter.unusedVariables false
set_option maxHeartbeats 1000000
def orE : List Int → Int
  | [] => 0
  | e :: l => if e = 0 then orE l else e
theorem orE_get : ∀ (l : List Int) (i : Nat) (e : Int), (∀ j u, j < i → l[j]? = some u → u = 0) → l[i]? = some e → e ≠ 0 → orE l = e
  | [], i, e, _, h, _ => by simp at h
  | x :: l, 0, e, _, h, h0 => by
    obtain rfl : x = e := by simpa using h
    simp [orE, h0]
  | x :: l, i + 1, e, ha, h, h0 => by
    have hx : x = 0 := ha 0 x (by omega) rfl
    simp only [orE, hx, if_true]
    exact orE_get l i e (fun j u hj hu => ha (j + 1) u (by omega) (by simpa using hu)) (by simpa using h) h0
theorem orE_none : ∀ (l : List Int), (∀ j u, j < l.length → l[j]? = some u → u = 0) → orE l = 0
  | [], _ => rfl
  | x :: l, ha => by
    have hx : x = 0 := ha 0 x (by simp) rfl
    simp only [orE, hx, if_true]
    exact orE_none l (fun j u hj hu => ha (j + 1) u (by simpa using hj) (by simpa using hu))
def ints (l : List Int) : List Value := l.map (fun e => .int .i64 e)
/-- A slice whose elements are these values. -/
def ReadsV (w : World) (A : Option Addr) (l : List VV) : Prop := ∀ (j : Nat) (v : VV), l[j]? = some v → ∃ b off, A = some ⟨b, off, none⟩ ∧ b < w.heap.size ∧ w.rangeAt b (off + j * 5) v.cs
theorem rangeAt_on {w X : World} {b p : Nat} {cs : List Value} (h : w.rangeAt b p cs) (hb : b < w.heap.size) (k : Below w.heap.size w X) : X.rangeAt b p cs := fun j v hv => by
  have e := h j v hv
  have h1 := k.block b hb
  unfold World.cell? at e ⊢
  dsimp only at e ⊢
  rw [h1]
  exact e
def callB (h : HP) (o : Int) : Bool := hasH o h.l.length && ((h.l[(o - 1).toNat]?).map (fun q => callsM q.m)).getD false
def buildB (h : HP) (o : Int) : Bool := hasH o h.l.length && ((h.l[(o - 1).toNat]?).map (fun q => buildsM q.m)).getD false
def mOf (h : HP) (o : Int) : Nat := ((h.l[(o - 1).toNat]?).map (fun q => q.m)).getD 0
def kindE (b : Bool) : Int := if b then 0 else 8
set_option maxRecDepth 100000 in
theorem caller_h (h : HP) (o : Int) (w : World) (H : h.Is w) (hl : h.l.length ≤ 65536) : Calls Tryz.prog 63 #[.pointer (some ⟨h.b, 0, none⟩), .int .i64 o] w fun e w' => e = .returned (.tuple #[asI (callB h o) (mOf h o), .int .i64 (kindE (callB h o))]) ∧ w' = w := by
  obtain ⟨z, hz⟩ : ∃ z, hasH o h.l.length = z := ⟨_, rfl⟩
  have HA := has_h h o w H
  rw [hz] at HA
  cases z
  · have e1 : callB h o = false := by unfold callB; rw [hz]; rfl
    rw [e1]
    go_enter Tryz.func63, Tryz.ntmps63
    go_wp2_with fail
    refine HA.mono ?_
    rintro _ _ ⟨rfl, rfl⟩
    go_wp2
    go_ret2
    exact ⟨rfl, rfl⟩
  · obtain ⟨j, q, ho, hj⟩ := has_some hz
    have HT := at_h h j q w H hj hl
    rw [← ho] at HT
    have HO := hide (H.ob hj).1
    have hq : h.l[(o - 1).toNat]? = some q := by rw [ho, show ((j : Int) + 1 - 1).toNat = j by omega]; exact hj
    have e1 : callB h o = callsM q.m := by unfold callB; rw [hz, hq]; rfl
    have e2 : mOf h o = q.m := by unfold mOf; rw [hq]; rfl
    rw [e1, e2]
    clear ho e1 e2
    obtain ⟨y, hy⟩ : ∃ y, callsM q.m = y := ⟨_, rfl⟩
    have tA : ∀ w, (Instr.typeAssert (.iface (mt q.m) (.agg #[])) 77 114 true).run Tryz.prog w = .ok (.tuple #[asI y q.m, .bool y]) w := fun w => by rw [← hy]; exact ta_caller q.m w
    rw [hy]
    clear hy
    cases y
    · go_enter Tryz.func63, Tryz.ntmps63
      go_wp2_with fail
      refine HA.mono ?_
      rintro _ _ ⟨rfl, rfl⟩
      go_wp2_with fail
      refine HT.mono ?_
      rintro _ _ ⟨rfl, rfl⟩
      go_wp2_with (first | go_skip | ((with_reducible show wpList _ _ _ _ _ _); first | (refine rd (by rfl) (ex_load1 77 Tryz.isAgg77 rfl rfl (unhide HO) rfl) ?_; simp only [Act.put, n1, n2, n3])))
      go_ret2
      exact ⟨rfl, rfl⟩
    · go_enter Tryz.func63, Tryz.ntmps63
      go_wp2_with fail
      refine HA.mono ?_
      rintro _ _ ⟨rfl, rfl⟩
      go_wp2_with fail
      refine HT.mono ?_
      rintro _ _ ⟨rfl, rfl⟩
      go_wp2_with (first | go_skip | ((with_reducible show wpList _ _ _ _ _ _); first | (refine rd (by rfl) (ex_load1 77 Tryz.isAgg77 rfl rfl (unhide HO) rfl) ?_; simp only [Act.put, n1, n2, n3])))
      go_ret2
      exact ⟨rfl, rfl⟩
set_option maxRecDepth 100000 in
theorem callable_h (h : HP) (o : Int) (w : World) (H : h.Is w) (hl : h.l.length ≤ 65536) : Calls Tryz.prog 71 #[.pointer (some ⟨h.b, 0, none⟩), .int .i64 o] w fun e w' => e = .returned (.int .i64 (kindE (callB h o))) ∧ w' = w := by
  have HA := caller_h h o w H hl
  clear H
  go_enter Tryz.func71, Tryz.ntmps71
  go_wp2_with fail
  refine HA.mono ?_
  rintro _ _ ⟨rfl, rfl⟩
  go_wp2
  go_ret
  exact ⟨rfl, rfl⟩
theorem ex_neE1 {o : Oper} {a : Act} {w : World} {x y : Operand} {n m : Int} (ho : o.op = .binOp .neq 29 x y 29) (hx : a.eval x = .int .i64 n) (hc : a.eval y = .int .i64 m) (h : n ≠ m) : (execOp a.eval o).run Tryz.prog w = .ok (.value (.bool true)) w := by
  unfold execOp
  simp only [ho, hx, hc]
  simp [go_sem, eqGuard, h]
theorem ex_neE0 {o : Oper} {a : Act} {w : World} {x y : Operand} {n m : Int} (ho : o.op = .binOp .neq 29 x y 29) (hx : a.eval x = .int .i64 n) (hc : a.eval y = .int .i64 m) (h : n = m) : (execOp a.eval o).run Tryz.prog w = .ok (.value (.bool false)) w := by
  unfold execOp
  simp only [ho, hx, hc]
  simp [go_sem, eqGuard, h]
set_option maxRecDepth 100000 in
theorem or_any (B c : Nat) (es : List Int) (w : World) (hR : Holds w B (ints es)) (hz : es.length ≤ 100) : Calls Tryz.prog 22 #[.slice (some ⟨B, 0, none⟩) es.length c] w fun e w' => e = .returned (.int .i64 (orE es)) ∧ w' = w := by
  have HR := hide hR
  have HZ := hide hz
  clear hR hz
  go_enter Tryz.func22, Tryz.ntmps22
  go_wp2_with (first | go_skip | ((with_reducible show wpList _ _ _ _ _ _); first | (refine rd (by rfl) (ex_lenG 101 29 Tryz.underlying101 rfl rfl) ?_; simp only [Act.put, n1, n2, n3])))
  go_loopg [8] es.length (fun gm s8 wr => ∃ i : Nat, s8 = .int .i64 (i : Nat) ∧ i ≤ es.length ∧ es.length - i ≤ gm ∧ Hid (∀ j u, j < i → es[j]? = some u → u = 0) ∧ wr = w)
  case atStart => exact ⟨0, rfl, by omega, by omega, hide (fun j v hj => by omega), rfl⟩
  case round =>
    obtain ⟨i, rfl, hil, hgm, HD, rfl⟩ := hrel
    by_cases hlt : i < es.length
    · have dlt : decide ((i : Int) < (es.length : Int)) = true := decide_eq_true (by omega)
      have hw1 : IntKind.i64.wrap ((i : Int) + 1) = (i : Int) + 1 := by have := unhide HZ; rw [IntKind.wrap_i64]; omega
      obtain ⟨e, he⟩ : ∃ e, es[i]? = some e := ⟨_, List.getElem?_eq_getElem hlt⟩
      have HC : Hid (wr.cell? ⟨B, 0 + i * 1, none⟩ = some (.int .i64 e)) := hide (by
        have := (unhide HR).cell i (v := .int .i64 e) (by unfold ints; rw [List.getElem?_map, he]; rfl)
        rw [Nat.zero_add, Nat.mul_one]
        exact this)
      have HLT := hide hlt
      clear hlt hil
      by_cases h0 : e = 0
      · have HD2 : Hid (∀ j u, j < i + 1 → es[j]? = some u → u = 0) := hide (fun j u hj hu => by
          rcases Nat.lt_or_ge j i with h | h
          · exact unhide HD j u h hu
          · obtain rfl : j = i := by omega
            exact (Option.some.inj (he.symm.trans hu)) ▸ h0)
        clear he HD
        go_wp2_with (first | go_skip | ((with_reducible show wpList _ _ _ _ _ _); first | (refine rd (by rfl) (ex_lenG 101 29 Tryz.underlying101 rfl rfl) ?_; simp only [Act.put, n1, n2, n3]) | (refine rd (by rfl) (ex_indexG 101 1 i unEs idEs rfl rfl rfl (unhide HLT)) ?_; simp only [Act.put, n1, n2, n3]) | (refine rd (by rfl) (ex_loadK 29 Tryz.isAgg29 rfl rfl (unhide HC)) ?_; simp only [Act.put, n1, n2, n3]) | (refine rd (by rfl) (ex_neE0 rfl rfl rfl h0) ?_; simp only [Act.put, n1, n2, n3])))
        go_roundg (es.length - (i + 1))
        case measure => have := unhide HLT; omega
        case rel => exact ⟨i + 1, by go_num, by have := unhide HLT; omega, by omega, HD2, rfl⟩
      · have HE : Hid (orE es = e) := hide (orE_get es i e (unhide HD) he h0)
        clear he HD
        go_wp2_with (first | go_skip | ((with_reducible show wpList _ _ _ _ _ _); first | (refine rd (by rfl) (ex_lenG 101 29 Tryz.underlying101 rfl rfl) ?_; simp only [Act.put, n1, n2, n3]) | (refine rd (by rfl) (ex_indexG 101 1 i unEs idEs rfl rfl rfl (unhide HLT)) ?_; simp only [Act.put, n1, n2, n3]) | (refine rd (by rfl) (ex_loadK 29 Tryz.isAgg29 rfl rfl (unhide HC)) ?_; simp only [Act.put, n1, n2, n3]) | (refine rd (by rfl) (ex_neE1 rfl rfl rfl h0) ?_; simp only [Act.put, n1, n2, n3])))
        go_ret
        exact ⟨by rw [unhide HE]; rfl, rfl⟩
    · obtain rfl : i = es.length := by omega
      have HE : Hid (orE es = 0) := hide (orE_none es (unhide HD))
      clear hlt hil HD
      go_wp2
      go_ret
      exact ⟨by rw [unhide HE]; rfl, rfl⟩
theorem allV_false {f : VV → Bool} {l : List VV} {i : Nat} {v : VV} (hv : l[i]? = some v) (hf : f v = false) : l.all f = false := by
  rw [List.all_eq_false]
  exact ⟨v, List.mem_of_getElem? hv, by simp [hf]⟩
theorem allV_true {f : VV → Bool} {l : List VV} (h : ∀ j v, j < l.length → l[j]? = some v → f v = true) : l.all f = true := by
  rw [List.all_eq_true]
  intro v hv
  obtain ⟨j, hj⟩ := List.getElem?_of_mem hv
  exact h j v (List.getElem?_eq_some_iff.1 hj).1 hj
def knownV (n : Nat) (v : VV) : Bool := !(v.k == 7) || hasH v.i n
def knownE (n : Nat) (vs : List VV) : Int := if vs.all (knownV n) then 0 else 4
def soundE (vs : List VV) : Int := if vs.all VV.good then 0 else 5
def accV (h : HP) (v : VV) : Bool := !(v.k == 7) || callB h v.i
def accE (h : HP) (vs : List VV) : Int := if vs.all (accV h) then 0 else 8
set_option maxHeartbeats 2000000 in
set_option maxRecDepth 100000 in
theorem known_h (h : HP) (B : Option Addr) (c : Nat) (vs : List VV) (w : World) (H : h.Is w) (hR : ReadsV w B vs) (hz : vs.length ≤ 1000000) : Calls Tryz.prog 34 #[.pointer (some ⟨h.b, 0, none⟩), .slice B vs.length c] w fun e w' => e = .returned (.int .i64 (knownE h.l.length vs)) ∧ Below w.heap.size w w' := by
  have SS := hide (Sy.nil w [])
  have HH := hide H
  clear H
  have HR := hide hR
  have HZ := hide hz
  clear hR hz
  go_enter Tryz.func34, Tryz.ntmps34
  go_wp2_with (first | go_skip | ((with_reducible show wpList _ _ _ _ _ _); first | (refine rd (by rfl) (ex_lenG 63 24 Tryz.underlying63 rfl rfl) ?_; simp only [Act.put, n1, n2, n3])))
  go_loopg [9] vs.length (fun gm s9 wr => ∃ i : Nat, s9 = .int .i64 (i : Nat) ∧ i ≤ vs.length ∧ vs.length - i ≤ gm ∧ Hid (∀ j v, j < i → vs[j]? = some v → knownV h.l.length v = true) ∧ Hid (Sy w wr [] []))
  case atStart => exact ⟨0, rfl, by omega, by omega, hide (fun j v hj => by omega), SS⟩
  case round =>
    clear SS
    obtain ⟨i, rfl, hil, hgm, HD, SS⟩ := hrel
    by_cases hlt : i < vs.length
    · have dlt : decide ((i : Int) < (vs.length : Int)) = true := decide_eq_true (by omega)
      have hw1 : IntKind.i64.wrap ((i : Int) + 1) = (i : Int) + 1 := by have := unhide HZ; rw [IntKind.wrap_i64]; omega
      obtain ⟨v, hv⟩ : ∃ v, vs[i]? = some v := ⟨_, List.getElem?_eq_getElem hlt⟩
      obtain ⟨b, off, hA, hb, hrg⟩ := (unhide HR) i v hv
      subst hA
      have HA2 : Hid (∀ X, Below w.heap.size w X → X.rangeAt b (off + i * 5) v.cs) := hide (fun X hX => rangeAt_on hrg hb hX)
      have HLT := hide hlt
      clear hb hrg hlt hil
      by_cases hk : v.k = 7
      · obtain ⟨z, hz⟩ : ∃ z, hasH v.i h.l.length = z := ⟨_, rfl⟩
        cases z
        · have HFA : Hid (vs.all (knownV h.l.length) = false) := hide (allV_false hv (by unfold knownV; rw [hz]; simp [hk]))
          go_wp2_with (first | go_skip | ((with_reducible show wpList _ _ _ _ _ _); first | (refine rd (by rfl) (ex_lenG 63 24 Tryz.underlying63 rfl rfl) ?_; simp only [Act.put, n1, n2, n3]) | (refine rd (by rfl) (ex_indexG 63 5 i unVs idVs rfl rfl rfl (unhide HLT)) ?_; simp only [Act.put, n1, n2, n3]) | (refine rd (by rfl) (ex_loadR (vs := v.cs) 24 5 rwV szV rfl rfl (unhide HA2 _ (unhide SS).fr.below) rfl) ?_; simp only [Act.put, n1, n2, n3]) | (refine zA 24 (zeroV.cs) (by rfl) rfl SS ?_; clear SS; intro X3 B3 SS; simp only [Act.put, n1, n2, n3]) | (refine zS (v.cs) 0 24 (by rfl) rfl rfl rfl rfl (oneV v) szV SS rfl ?_; clear SS; intro X4 SS; simp only [Act.put, n1, n2, n3]) | (refine rd (by rfl) (ex_load1 3 Tryz.isAgg3 rfl rfl ((unhide SS).hold 0 rfl) rfl) ?_; simp only [Act.put, n1, n2, n3]) | (refine zL (v.cs) 24 5 0 rwV szV (by rfl) rfl rfl SS rfl rfl rfl ?_; simp only [Act.put, n1, n2, n3]) | (refine rd (by rfl) (ex_eqYes rfl rfl rfl hk) ?_; simp only [Act.put, n1, n2, n3])))
          have HO := has_h h v.i _ ((unhide HH).on (unhide SS).fr.below)
          rw [hz] at HO
          refine HO.mono ?_
          rintro e X5 ⟨rfl, rfl⟩
          go_wp2
          go_ret
          exact ⟨by unfold knownE; rw [unhide HFA]; rfl, (unhide SS).fr.below⟩
        · have HD2 : Hid (∀ j u, j < i + 1 → vs[j]? = some u → knownV h.l.length u = true) := hide (fun j u hj hu => by
            rcases Nat.lt_or_ge j i with h | h
            · exact unhide HD j u h hu
            · obtain rfl : j = i := by omega
              obtain rfl : v = u := Option.some.inj (hv.symm.trans hu)
              exact (by unfold knownV; rw [hz]; simp))
          clear HD
          go_wp2_with (first | go_skip | ((with_reducible show wpList _ _ _ _ _ _); first | (refine rd (by rfl) (ex_lenG 63 24 Tryz.underlying63 rfl rfl) ?_; simp only [Act.put, n1, n2, n3]) | (refine rd (by rfl) (ex_indexG 63 5 i unVs idVs rfl rfl rfl (unhide HLT)) ?_; simp only [Act.put, n1, n2, n3]) | (refine rd (by rfl) (ex_loadR (vs := v.cs) 24 5 rwV szV rfl rfl (unhide HA2 _ (unhide SS).fr.below) rfl) ?_; simp only [Act.put, n1, n2, n3]) | (refine zA 24 (zeroV.cs) (by rfl) rfl SS ?_; clear SS; intro X3 B3 SS; simp only [Act.put, n1, n2, n3]) | (refine zS (v.cs) 0 24 (by rfl) rfl rfl rfl rfl (oneV v) szV SS rfl ?_; clear SS; intro X4 SS; simp only [Act.put, n1, n2, n3]) | (refine rd (by rfl) (ex_load1 3 Tryz.isAgg3 rfl rfl ((unhide SS).hold 0 rfl) rfl) ?_; simp only [Act.put, n1, n2, n3]) | (refine zL (v.cs) 24 5 0 rwV szV (by rfl) rfl rfl SS rfl rfl rfl ?_; simp only [Act.put, n1, n2, n3]) | (refine rd (by rfl) (ex_eqYes rfl rfl rfl hk) ?_; simp only [Act.put, n1, n2, n3])))
          have HO := has_h h v.i _ ((unhide HH).on (unhide SS).fr.below)
          rw [hz] at HO
          refine HO.mono ?_
          rintro e X5 ⟨rfl, rfl⟩
          replace SS := hide (Sy.left (L := []) (M := [_]) (unhide SS))
          go_wp2
          go_roundg (vs.length - (i + 1))
          case measure => have := unhide HLT; omega
          case rel => exact ⟨i + 1, by go_num, by have := unhide HLT; omega, by omega, HD2, SS⟩
      · have HD2 : Hid (∀ j u, j < i + 1 → vs[j]? = some u → knownV h.l.length u = true) := hide (fun j u hj hu => by
          rcases Nat.lt_or_ge j i with h | h
          · exact unhide HD j u h hu
          · obtain rfl : j = i := by omega
            obtain rfl : v = u := Option.some.inj (hv.symm.trans hu)
            exact (by unfold knownV; simp [hk]))
        clear HD
        go_wp2_with (first | go_skip | ((with_reducible show wpList _ _ _ _ _ _); first | (refine rd (by rfl) (ex_lenG 63 24 Tryz.underlying63 rfl rfl) ?_; simp only [Act.put, n1, n2, n3]) | (refine rd (by rfl) (ex_indexG 63 5 i unVs idVs rfl rfl rfl (unhide HLT)) ?_; simp only [Act.put, n1, n2, n3]) | (refine rd (by rfl) (ex_loadR (vs := v.cs) 24 5 rwV szV rfl rfl (unhide HA2 _ (unhide SS).fr.below) rfl) ?_; simp only [Act.put, n1, n2, n3]) | (refine zA 24 (zeroV.cs) (by rfl) rfl SS ?_; clear SS; intro X3 B3 SS; simp only [Act.put, n1, n2, n3]) | (refine zS (v.cs) 0 24 (by rfl) rfl rfl rfl rfl (oneV v) szV SS rfl ?_; clear SS; intro X4 SS; simp only [Act.put, n1, n2, n3]) | (refine rd (by rfl) (ex_load1 3 Tryz.isAgg3 rfl rfl ((unhide SS).hold 0 rfl) rfl) ?_; simp only [Act.put, n1, n2, n3]) | (refine zL (v.cs) 24 5 0 rwV szV (by rfl) rfl rfl SS rfl rfl rfl ?_; simp only [Act.put, n1, n2, n3]) | (refine rd (by rfl) (ex_eqNo rfl rfl rfl hk) ?_; simp only [Act.put, n1, n2, n3])))
        replace SS := hide (Sy.left (L := []) (M := [_]) (unhide SS))
        go_wp2
        go_roundg (vs.length - (i + 1))
        case measure => have := unhide HLT; omega
        case rel => exact ⟨i + 1, by go_num, by have := unhide HLT; omega, by omega, HD2, SS⟩
    · obtain rfl : i = vs.length := by omega
      have HTA : Hid (vs.all (knownV h.l.length) = true) := hide (allV_true (fun j v hj hv => unhide HD j v hj hv))
      clear hlt hil HD
      go_wp2_with (first | go_skip | ((with_reducible show wpList _ _ _ _ _ _); first | (refine rd (by rfl) (ex_lenG 63 24 Tryz.underlying63 rfl rfl) ?_; simp only [Act.put, n1, n2, n3])))
      go_ret
      exact ⟨by unfold knownE; rw [unhide HTA]; rfl, (unhide SS).fr.below⟩
set_option maxHeartbeats 2000000 in
set_option maxRecDepth 100000 in
theorem sound_h (B : Option Addr) (c : Nat) (vs : List VV) (w : World) (hT : Lib.Utf8Tabs 1 2 w) (hR : ReadsV w B vs) (hz : vs.length ≤ 1000000) : Calls Tryz.prog 33 #[.slice B vs.length c] w fun e w' => e = .returned (.int .i64 (soundE vs)) ∧ Below w.heap.size w w' := by
  have SS := hide (Sy.nil w [])
  have HT := hide hT
  clear hT
  have HR := hide hR
  have HZ := hide hz
  clear hR hz
  go_enter Tryz.func33, Tryz.ntmps33
  go_wp2_with (first | go_skip | ((with_reducible show wpList _ _ _ _ _ _); first | (refine rd (by rfl) (ex_lenG 63 24 Tryz.underlying63 rfl rfl) ?_; simp only [Act.put, n1, n2, n3])))
  go_loopg [8] vs.length (fun gm s9 wr => ∃ i : Nat, s9 = .int .i64 (i : Nat) ∧ i ≤ vs.length ∧ vs.length - i ≤ gm ∧ Hid (∀ j v, j < i → vs[j]? = some v → VV.good v = true) ∧ Hid (Sy w wr [] []))
  case atStart => exact ⟨0, rfl, by omega, by omega, hide (fun j v hj => by omega), SS⟩
  case round =>
    clear SS
    obtain ⟨i, rfl, hil, hgm, HD, SS⟩ := hrel
    by_cases hlt : i < vs.length
    · have dlt : decide ((i : Int) < (vs.length : Int)) = true := decide_eq_true (by omega)
      have hw1 : IntKind.i64.wrap ((i : Int) + 1) = (i : Int) + 1 := by have := unhide HZ; rw [IntKind.wrap_i64]; omega
      obtain ⟨v, hv⟩ : ∃ v, vs[i]? = some v := ⟨_, List.getElem?_eq_getElem hlt⟩
      obtain ⟨b, off, hA, hb, hrg⟩ := (unhide HR) i v hv
      subst hA
      have HA2 : Hid (∀ X, Below w.heap.size w X → X.rangeAt b (off + i * 5) v.cs) := hide (fun X hX => rangeAt_on hrg hb hX)
      have HLT := hide hlt
      clear hb hrg hlt hil
      obtain ⟨z, hz⟩ : ∃ z, v.good = z := ⟨_, rfl⟩
      cases z
      · have HFA : Hid (vs.all (VV.good) = false) := hide (allV_false hv hz)
        go_wp2_with (first | go_skip | ((with_reducible show wpList _ _ _ _ _ _); first | (refine rd (by rfl) (ex_lenG 63 24 Tryz.underlying63 rfl rfl) ?_; simp only [Act.put, n1, n2, n3]) | (refine rd (by rfl) (ex_indexG 63 5 i unVs idVs rfl rfl rfl (unhide HLT)) ?_; simp only [Act.put, n1, n2, n3]) | (refine rd (by rfl) (ex_loadR (vs := v.cs) 24 5 rwV szV rfl rfl (unhide HA2 _ (unhide SS).fr.below) rfl) ?_; simp only [Act.put, n1, n2, n3]) | (refine zA 24 (zeroV.cs) (by rfl) rfl SS ?_; clear SS; intro X3 B3 SS; simp only [Act.put, n1, n2, n3]) | (refine zS (v.cs) 0 24 (by rfl) rfl rfl rfl rfl (oneV v) szV SS rfl ?_; clear SS; intro X4 SS; simp only [Act.put, n1, n2, n3]) | (refine rd (by rfl) (ex_load1 3 Tryz.isAgg3 rfl rfl ((unhide SS).hold 0 rfl) rfl) ?_; simp only [Act.put, n1, n2, n3]) | (refine zL (v.cs) 24 5 0 rwV szV (by rfl) rfl rfl SS rfl rfl rfl ?_; simp only [Act.put, n1, n2, n3])))
        have HO := check_any v _ (tabs_below (unhide HT) (unhide SS).fr.below)
        rw [vagg] at HO
        refine HO.mono ?_
        rintro e X5 ⟨rfl, hb5⟩
        replace SS := hide ((unhide SS).on hb5)
        clear hb5 HO
        rw [show errB v.good = 5 by rw [hz]; rfl]
        go_wp2
        go_ret
        exact ⟨by unfold soundE; rw [unhide HFA]; rfl, (unhide SS).fr.below⟩
      · have HD2 : Hid (∀ j u, j < i + 1 → vs[j]? = some u → VV.good u = true) := hide (fun j u hj hu => by
          rcases Nat.lt_or_ge j i with h | h
          · exact unhide HD j u h hu
          · obtain rfl : j = i := by omega
            obtain rfl : v = u := Option.some.inj (hv.symm.trans hu)
            exact hz)
        clear HD
        go_wp2_with (first | go_skip | ((with_reducible show wpList _ _ _ _ _ _); first | (refine rd (by rfl) (ex_lenG 63 24 Tryz.underlying63 rfl rfl) ?_; simp only [Act.put, n1, n2, n3]) | (refine rd (by rfl) (ex_indexG 63 5 i unVs idVs rfl rfl rfl (unhide HLT)) ?_; simp only [Act.put, n1, n2, n3]) | (refine rd (by rfl) (ex_loadR (vs := v.cs) 24 5 rwV szV rfl rfl (unhide HA2 _ (unhide SS).fr.below) rfl) ?_; simp only [Act.put, n1, n2, n3]) | (refine zA 24 (zeroV.cs) (by rfl) rfl SS ?_; clear SS; intro X3 B3 SS; simp only [Act.put, n1, n2, n3]) | (refine zS (v.cs) 0 24 (by rfl) rfl rfl rfl rfl (oneV v) szV SS rfl ?_; clear SS; intro X4 SS; simp only [Act.put, n1, n2, n3]) | (refine rd (by rfl) (ex_load1 3 Tryz.isAgg3 rfl rfl ((unhide SS).hold 0 rfl) rfl) ?_; simp only [Act.put, n1, n2, n3]) | (refine zL (v.cs) 24 5 0 rwV szV (by rfl) rfl rfl SS rfl rfl rfl ?_; simp only [Act.put, n1, n2, n3])))
        have HO := check_any v _ (tabs_below (unhide HT) (unhide SS).fr.below)
        rw [vagg] at HO
        refine HO.mono ?_
        rintro e X5 ⟨rfl, hb5⟩
        replace SS := hide ((unhide SS).on hb5)
        clear hb5 HO
        rw [show errB v.good = 0 by rw [hz]; rfl]
        replace SS := hide (Sy.left (L := []) (M := [_]) (unhide SS))
        go_wp2
        go_roundg (vs.length - (i + 1))
        case measure => have := unhide HLT; omega
        case rel => exact ⟨i + 1, by go_num, by have := unhide HLT; omega, by omega, HD2, SS⟩
    · obtain rfl : i = vs.length := by omega
      have HTA : Hid (vs.all (VV.good) = true) := hide (allV_true (fun j v hj hv => unhide HD j v hj hv))
      clear hlt hil HD
      go_wp2_with (first | go_skip | ((with_reducible show wpList _ _ _ _ _ _); first | (refine rd (by rfl) (ex_lenG 63 24 Tryz.underlying63 rfl rfl) ?_; simp only [Act.put, n1, n2, n3])))
      go_ret
      exact ⟨by unfold soundE; rw [unhide HTA]; rfl, (unhide SS).fr.below⟩
set_option maxHeartbeats 2000000 in
set_option maxRecDepth 100000 in
theorem acc_h (h : HP) (B : Option Addr) (c : Nat) (vs : List VV) (w : World) (H : h.Is w) (hl : h.l.length ≤ 65536) (hR : ReadsV w B vs) (hz : vs.length ≤ 1000000) : Calls Tryz.prog 45 #[.pointer (some ⟨h.b, 0, none⟩), .slice B vs.length c] w fun e w' => e = .returned (.int .i64 (accE h vs)) ∧ Below w.heap.size w w' := by
  have SS := hide (Sy.nil w [])
  have HH := hide H
  clear H
  have HR := hide hR
  have HZ := hide hz
  clear hR hz
  go_enter Tryz.func45, Tryz.ntmps45
  go_wp2_with (first | go_skip | ((with_reducible show wpList _ _ _ _ _ _); first | (refine rd (by rfl) (ex_lenG 63 24 Tryz.underlying63 rfl rfl) ?_; simp only [Act.put, n1, n2, n3])))
  go_loopg [9] vs.length (fun gm s9 wr => ∃ i : Nat, s9 = .int .i64 (i : Nat) ∧ i ≤ vs.length ∧ vs.length - i ≤ gm ∧ Hid (∀ j v, j < i → vs[j]? = some v → accV h v = true) ∧ Hid (Sy w wr [] []))
  case atStart => exact ⟨0, rfl, by omega, by omega, hide (fun j v hj => by omega), SS⟩
  case round =>
    clear SS
    obtain ⟨i, rfl, hil, hgm, HD, SS⟩ := hrel
    by_cases hlt : i < vs.length
    · have dlt : decide ((i : Int) < (vs.length : Int)) = true := decide_eq_true (by omega)
      have hw1 : IntKind.i64.wrap ((i : Int) + 1) = (i : Int) + 1 := by have := unhide HZ; rw [IntKind.wrap_i64]; omega
      obtain ⟨v, hv⟩ : ∃ v, vs[i]? = some v := ⟨_, List.getElem?_eq_getElem hlt⟩
      obtain ⟨b, off, hA, hb, hrg⟩ := (unhide HR) i v hv
      subst hA
      have HA2 : Hid (∀ X, Below w.heap.size w X → X.rangeAt b (off + i * 5) v.cs) := hide (fun X hX => rangeAt_on hrg hb hX)
      have HLT := hide hlt
      clear hb hrg hlt hil
      by_cases hk : v.k = 7
      · obtain ⟨z, hz⟩ : ∃ z, callB h v.i = z := ⟨_, rfl⟩
        cases z
        · have HFA : Hid (vs.all (accV h) = false) := hide (allV_false hv (by unfold accV; rw [hz]; simp [hk]))
          go_wp2_with (first | go_skip | ((with_reducible show wpList _ _ _ _ _ _); first | (refine rd (by rfl) (ex_lenG 63 24 Tryz.underlying63 rfl rfl) ?_; simp only [Act.put, n1, n2, n3]) | (refine rd (by rfl) (ex_indexG 63 5 i unVs idVs rfl rfl rfl (unhide HLT)) ?_; simp only [Act.put, n1, n2, n3]) | (refine rd (by rfl) (ex_loadR (vs := v.cs) 24 5 rwV szV rfl rfl (unhide HA2 _ (unhide SS).fr.below) rfl) ?_; simp only [Act.put, n1, n2, n3]) | (refine zA 24 (zeroV.cs) (by rfl) rfl SS ?_; clear SS; intro X3 B3 SS; simp only [Act.put, n1, n2, n3]) | (refine zS (v.cs) 0 24 (by rfl) rfl rfl rfl rfl (oneV v) szV SS rfl ?_; clear SS; intro X4 SS; simp only [Act.put, n1, n2, n3]) | (refine rd (by rfl) (ex_load1 3 Tryz.isAgg3 rfl rfl ((unhide SS).hold 0 rfl) rfl) ?_; simp only [Act.put, n1, n2, n3]) | (refine zL (v.cs) 24 5 0 rwV szV (by rfl) rfl rfl SS rfl rfl rfl ?_; simp only [Act.put, n1, n2, n3]) | (refine rd (by rfl) (ex_eqYes rfl rfl rfl hk) ?_; simp only [Act.put, n1, n2, n3])))
          have HO := callable_h h v.i _ ((unhide HH).on (unhide SS).fr.below) hl
          rw [hz] at HO
          refine HO.mono ?_
          rintro e X5 ⟨rfl, rfl⟩
          go_wp2
          go_ret
          exact ⟨by unfold accE; rw [unhide HFA]; rfl, (unhide SS).fr.below⟩
        · have HD2 : Hid (∀ j u, j < i + 1 → vs[j]? = some u → accV h u = true) := hide (fun j u hj hu => by
            rcases Nat.lt_or_ge j i with h | h
            · exact unhide HD j u h hu
            · obtain rfl : j = i := by omega
              obtain rfl : v = u := Option.some.inj (hv.symm.trans hu)
              exact (by unfold accV; rw [hz]; simp))
          clear HD
          go_wp2_with (first | go_skip | ((with_reducible show wpList _ _ _ _ _ _); first | (refine rd (by rfl) (ex_lenG 63 24 Tryz.underlying63 rfl rfl) ?_; simp only [Act.put, n1, n2, n3]) | (refine rd (by rfl) (ex_indexG 63 5 i unVs idVs rfl rfl rfl (unhide HLT)) ?_; simp only [Act.put, n1, n2, n3]) | (refine rd (by rfl) (ex_loadR (vs := v.cs) 24 5 rwV szV rfl rfl (unhide HA2 _ (unhide SS).fr.below) rfl) ?_; simp only [Act.put, n1, n2, n3]) | (refine zA 24 (zeroV.cs) (by rfl) rfl SS ?_; clear SS; intro X3 B3 SS; simp only [Act.put, n1, n2, n3]) | (refine zS (v.cs) 0 24 (by rfl) rfl rfl rfl rfl (oneV v) szV SS rfl ?_; clear SS; intro X4 SS; simp only [Act.put, n1, n2, n3]) | (refine rd (by rfl) (ex_load1 3 Tryz.isAgg3 rfl rfl ((unhide SS).hold 0 rfl) rfl) ?_; simp only [Act.put, n1, n2, n3]) | (refine zL (v.cs) 24 5 0 rwV szV (by rfl) rfl rfl SS rfl rfl rfl ?_; simp only [Act.put, n1, n2, n3]) | (refine rd (by rfl) (ex_eqYes rfl rfl rfl hk) ?_; simp only [Act.put, n1, n2, n3])))
          have HO := callable_h h v.i _ ((unhide HH).on (unhide SS).fr.below) hl
          rw [hz] at HO
          refine HO.mono ?_
          rintro e X5 ⟨rfl, rfl⟩
          replace SS := hide (Sy.left (L := []) (M := [_]) (unhide SS))
          go_wp2
          go_roundg (vs.length - (i + 1))
          case measure => have := unhide HLT; omega
          case rel => exact ⟨i + 1, by go_num, by have := unhide HLT; omega, by omega, HD2, SS⟩
      · have HD2 : Hid (∀ j u, j < i + 1 → vs[j]? = some u → accV h u = true) := hide (fun j u hj hu => by
          rcases Nat.lt_or_ge j i with h | h
          · exact unhide HD j u h hu
          · obtain rfl : j = i := by omega
            obtain rfl : v = u := Option.some.inj (hv.symm.trans hu)
            exact (by unfold accV; simp [hk]))
        clear HD
        go_wp2_with (first | go_skip | ((with_reducible show wpList _ _ _ _ _ _); first | (refine rd (by rfl) (ex_lenG 63 24 Tryz.underlying63 rfl rfl) ?_; simp only [Act.put, n1, n2, n3]) | (refine rd (by rfl) (ex_indexG 63 5 i unVs idVs rfl rfl rfl (unhide HLT)) ?_; simp only [Act.put, n1, n2, n3]) | (refine rd (by rfl) (ex_loadR (vs := v.cs) 24 5 rwV szV rfl rfl (unhide HA2 _ (unhide SS).fr.below) rfl) ?_; simp only [Act.put, n1, n2, n3]) | (refine zA 24 (zeroV.cs) (by rfl) rfl SS ?_; clear SS; intro X3 B3 SS; simp only [Act.put, n1, n2, n3]) | (refine zS (v.cs) 0 24 (by rfl) rfl rfl rfl rfl (oneV v) szV SS rfl ?_; clear SS; intro X4 SS; simp only [Act.put, n1, n2, n3]) | (refine rd (by rfl) (ex_load1 3 Tryz.isAgg3 rfl rfl ((unhide SS).hold 0 rfl) rfl) ?_; simp only [Act.put, n1, n2, n3]) | (refine zL (v.cs) 24 5 0 rwV szV (by rfl) rfl rfl SS rfl rfl rfl ?_; simp only [Act.put, n1, n2, n3]) | (refine rd (by rfl) (ex_eqNo rfl rfl rfl hk) ?_; simp only [Act.put, n1, n2, n3])))
        replace SS := hide (Sy.left (L := []) (M := [_]) (unhide SS))
        go_wp2
        go_roundg (vs.length - (i + 1))
        case measure => have := unhide HLT; omega
        case rel => exact ⟨i + 1, by go_num, by have := unhide HLT; omega, by omega, HD2, SS⟩
    · obtain rfl : i = vs.length := by omega
      have HTA : Hid (vs.all (accV h) = true) := hide (allV_true (fun j v hj hv => unhide HD j v hj hv))
      clear hlt hil HD
      go_wp2_with (first | go_skip | ((with_reducible show wpList _ _ _ _ _ _); first | (refine rd (by rfl) (ex_lenG 63 24 Tryz.underlying63 rfl rfl) ?_; simp only [Act.put, n1, n2, n3])))
      go_ret
      exact ⟨by unfold accE; rw [unhide HTA]; rfl, (unhide SS).fr.below⟩
