import Derived.Test.YteohiamifoonkaaDoorCa
import Derived.Test.YteohiamifoonkaaDoorDq
namespace Go.Proofs.YteohiamifoonkaaDoor
open Go Go.Proofs Go.Maps Go.RowKit FM
set_option linter.unusedSimpArgs false
set_option linter.unusedVariables false
set_option maxHeartbeats 1000000
/-- An operation: code, To, A, B, C, key, value, descriptor, Flag, Catch. -/
structure OP where
  c : Int
  t : Int
  a : Int
  b : Int
  d : Int
  k : KK
  v : VV
  e : DD
  f : Bool
  g : Bool
def OP.cs (o : OP) : List Value := [.int .i64 o.c, .int .i64 o.t, .int .i64 o.a, .int .i64 o.b, .int .i64 o.d] ++ o.k.cs ++ o.v.cs ++ o.e.cs ++ [.bool o.f, .bool o.g]
def OP.agg (o : OP) : Value := .agg o.cs.toArray
theorem ocs_length (o : OP) : o.cs.length = 32 := rfl
theorem oagg (o : OP) : o.agg = .agg o.cs.toArray := rfl
theorem ocs_one (o : OP) : ∀ u ∈ o.cs, u.oneCell' = true := by simp [OP.cs, KK.cs, VV.cs, DD.cs, Value.oneCell']
def OkO (o : OP) : Prop := FD o.e ∧ o.v.x < 2 ^ 64
/-- A slice whose elements are these operations. -/
def ReadsO (w : World) (A : Option Addr) (l : List OP) : Prop := ∀ j o, l[j]? = some o → OkO o ∧ ∃ b off, A = some ⟨b, off, none⟩ ∧ b < w.heap.size ∧ w.rangeAt b (off + j * 32) o.cs
theorem ReadsO.fr {w X : World} {A : Option Addr} {l : List OP} (h : ReadsO w A l) (hf : Fr w X []) : ReadsO X A l := fun j p hp => by
  obtain ⟨h1, b, off, h2, h3, h4⟩ := h j p hp
  exact ⟨h1, b, off, h2, Nat.lt_of_lt_of_le h3 hf.size, rangeAt_fr h4 h3 hf⟩
/-- A slice whose elements are these ints. -/
def ReadsI (w : World) (A : Option Addr) (l : List Int) : Prop := ∀ j n, l[j]? = some n → ∃ b off, A = some ⟨b, off, none⟩ ∧ b < w.heap.size ∧ w.rangeAt b (off + j * 1) [.int .i64 n]
theorem ReadsI.fr {w X : World} {A : Option Addr} {l : List Int} (h : ReadsI w A l) (hf : Fr w X []) : ReadsI X A l := fun j p hp => by
  obtain ⟨b, off, h2, h3, h4⟩ := h j p hp
  exact ⟨b, off, h2, Nat.lt_of_lt_of_le h3 hf.size, rangeAt_fr h4 h3 hf⟩
theorem unIs : Tryd.prog.underlying 59 = some (.slice (Tryd.prog.elem 59)) := by kernel_rfl
theorem idIs (w : World) : (sizeOf (Tryd.prog.elem 59)).run Tryd.prog w = .ok 1 w := by kernel_rfl
theorem unOs : Tryd.prog.underlying 22 = some (.slice (Tryd.prog.elem 22)) := by kernel_rfl
theorem idOs (w : World) : (sizeOf (Tryd.prog.elem 22)).run Tryd.prog w = .ok 32 w := by kernel_rfl
def rgB (n : Int) : Bool := decide (0 ≤ n) && decide (n < 16)
def useK (c : Int) : Bool := decide (10 ≤ c) && decide (c ≤ 15)
def accV (d : DD) : Bool := d.g.k != 0 || d.s.k != 0
def oI : Option Nat → Int
  | some j => (j : Int)
  | none => -1
theorem ex_neI {o : Oper} {a : Act} {w : World} {x y : Operand} {n m : Int} {r : Bool} (ho : o.op = .binOp .neq 3 x y 3) (hx : a.eval x = .int .i64 n) (hc : a.eval y = .int .i64 m) (h : (n != m) = r) : (execOp a.eval o).run Tryd.prog w = .ok (.value (.bool r)) w := by
  unfold execOp
  simp only [ho, hx, hc]
  simp [go_sem, eqGuard, h]
theorem ex_geI {o : Oper} {a : Act} {w : World} {x y : Operand} {n m : Int} {r : Bool} (ho : o.op = .binOp .geq 3 x y 3) (hx : a.eval x = .int .i64 n) (hc : a.eval y = .int .i64 m) (h : decide (m ≤ n) = r) : (execOp a.eval o).run Tryd.prog w = .ok (.value (.bool r)) w := by
  unfold execOp
  simp only [ho, hx, hc]
  simp [go_sem, eqGuard, h]
theorem ex_leI {o : Oper} {a : Act} {w : World} {x y : Operand} {n m : Int} {r : Bool} (ho : o.op = .binOp .leq 3 x y 3) (hx : a.eval x = .int .i64 n) (hc : a.eval y = .int .i64 m) (h : decide (n ≤ m) = r) : (execOp a.eval o).run Tryd.prog w = .ok (.value (.bool r)) w := by
  unfold execOp
  simp only [ho, hx, hc]
  simp [go_sem, eqGuard, h]
theorem ex_ltI {o : Oper} {a : Act} {w : World} {x y : Operand} {n m : Int} {r : Bool} (ho : o.op = .binOp .lss 3 x y 3) (hx : a.eval x = .int .i64 n) (hc : a.eval y = .int .i64 m) (h : decide (n < m) = r) : (execOp a.eval o).run Tryd.prog w = .ok (.value (.bool r)) w := by
  unfold execOp
  simp only [ho, hx, hc]
  simp [go_sem, eqGuard, h]
theorem ex_gtI {o : Oper} {a : Act} {w : World} {x y : Operand} {n m : Int} {r : Bool} (ho : o.op = .binOp .gtr 3 x y 3) (hx : a.eval x = .int .i64 n) (hc : a.eval y = .int .i64 m) (h : decide (m < n) = r) : (execOp a.eval o).run Tryd.prog w = .ok (.value (.bool r)) w := by
  unfold execOp
  simp only [ho, hx, hc]
  simp [go_sem, eqGuard, h]
set_option maxRecDepth 100000 in
theorem noReg_any (n : Int) (w : World) : Calls Tryd.prog 19 #[.int .i64 n] w fun e w' => e = .returned (.bool (!rgB n)) ∧ Below w.heap.size w w' := by
  unfold rgB
  cases h0 : decide (0 ≤ n)
  · have h1 : decide (n < 0) = true := decide_eq_true (by have := of_decide_eq_false h0; omega)
    clear h0
    go_enter Tryd.func19, Tryd.ntmps19
    go_wp2_with (first | go_skip | ((with_reducible show wpList _ _ _ _ _ _); first | ((refine rd (by rfl) (ex_ltI rfl rfl rfl h1) ?_); simp only [Act.put, List.setIfInBounds_toArray, List.set_cons_succ, List.set_cons_zero])))
    go_ret
    exact ⟨rfl, Below.refl _ _⟩
  · have h1 : decide (n < 0) = false := decide_eq_false (by have := of_decide_eq_true h0; omega)
    clear h0
    cases h2 : decide (n < 16)
    · have h3 : decide (16 ≤ n) = true := decide_eq_true (by have := of_decide_eq_false h2; omega)
      clear h2
      go_enter Tryd.func19, Tryd.ntmps19
      go_wp2_with (first | go_skip | ((with_reducible show wpList _ _ _ _ _ _); first | ((refine rd (by rfl) (ex_ltI rfl rfl rfl h1) ?_); simp only [Act.put, List.setIfInBounds_toArray, List.set_cons_succ, List.set_cons_zero]) | ((refine rd (by rfl) (ex_geI rfl rfl rfl h3) ?_); simp only [Act.put, List.setIfInBounds_toArray, List.set_cons_succ, List.set_cons_zero])))
      go_ret
      exact ⟨rfl, Below.refl _ _⟩
    · have h3 : decide (16 ≤ n) = false := decide_eq_false (by have := of_decide_eq_true h2; omega)
      clear h2
      go_enter Tryd.func19, Tryd.ntmps19
      go_wp2_with (first | go_skip | ((with_reducible show wpList _ _ _ _ _ _); first | ((refine rd (by rfl) (ex_ltI rfl rfl rfl h1) ?_); simp only [Act.put, List.setIfInBounds_toArray, List.set_cons_succ, List.set_cons_zero]) | ((refine rd (by rfl) (ex_geI rfl rfl rfl h3) ?_); simp only [Act.put, List.setIfInBounds_toArray, List.set_cons_succ, List.set_cons_zero])))
      go_ret
      exact ⟨rfl, Below.refl _ _⟩
set_option maxRecDepth 100000 in
theorem reg_any (n : Int) (w : World) : Calls Tryd.prog 26 #[.int .i64 n] w fun e w' => e = .returned (.bool (rgB n)) ∧ Below w.heap.size w w' := by
  unfold rgB
  cases h0 : decide (0 ≤ n)
  · go_enter Tryd.func26, Tryd.ntmps26
    go_wp2_with (first | go_skip | ((with_reducible show wpList _ _ _ _ _ _); first | ((refine rd (by rfl) (ex_geI rfl rfl rfl h0) ?_); simp only [Act.put, List.setIfInBounds_toArray, List.set_cons_succ, List.set_cons_zero])))
    go_ret
    exact ⟨rfl, Below.refl _ _⟩
  · cases h2 : decide (n < 16)
    · go_enter Tryd.func26, Tryd.ntmps26
      go_wp2_with (first | go_skip | ((with_reducible show wpList _ _ _ _ _ _); first | ((refine rd (by rfl) (ex_geI rfl rfl rfl h0) ?_); simp only [Act.put, List.setIfInBounds_toArray, List.set_cons_succ, List.set_cons_zero]) | ((refine rd (by rfl) (ex_ltI rfl rfl rfl h2) ?_); simp only [Act.put, List.setIfInBounds_toArray, List.set_cons_succ, List.set_cons_zero])))
      go_ret
      exact ⟨rfl, Below.refl _ _⟩
    · go_enter Tryd.func26, Tryd.ntmps26
      go_wp2_with (first | go_skip | ((with_reducible show wpList _ _ _ _ _ _); first | ((refine rd (by rfl) (ex_geI rfl rfl rfl h0) ?_); simp only [Act.put, List.setIfInBounds_toArray, List.set_cons_succ, List.set_cons_zero]) | ((refine rd (by rfl) (ex_ltI rfl rfl rfl h2) ?_); simp only [Act.put, List.setIfInBounds_toArray, List.set_cons_succ, List.set_cons_zero])))
      go_ret
      exact ⟨rfl, Below.refl _ _⟩
theorem codes {c : Int} (h1 : 1 ≤ c) (h2 : c ≤ 24) : c = 1 ∨ c = 2 ∨ c = 3 ∨ c = 4 ∨ c = 5 ∨ c = 6 ∨ c = 7 ∨ c = 8 ∨ c = 9 ∨ c = 10 ∨ c = 11 ∨ c = 12 ∨ c = 13 ∨ c = 14 ∨ c = 15 ∨ c = 16 ∨ c = 17 ∨ c = 18 ∨ c = 19 ∨ c = 20 ∨ c = 21 ∨ c = 22 ∨ c = 23 ∨ c = 24 := by omega
set_option maxHeartbeats 4000000 in
set_option maxRecDepth 100000 in
theorem usesKey_any (c : Int) (h1 : 1 ≤ c) (h2 : c ≤ 24) (w : World) : Calls Tryd.prog 22 #[.int .i64 c] w fun e w' => e = .returned (.bool (useK c)) ∧ Below w.heap.size w w' := by
  rcases codes h1 h2 with rfl | rfl | rfl | rfl | rfl | rfl | rfl | rfl | rfl | rfl | rfl | rfl | rfl | rfl | rfl | rfl | rfl | rfl | rfl | rfl | rfl | rfl | rfl | rfl
  all_goals
    clear h1 h2
    go_enter Tryd.func22, Tryd.ntmps22
    go_wp2
    go_ret
    exact ⟨rfl, Below.refl _ _⟩
set_option maxRecDepth 100000 in
theorem accessor_any (d : DD) (w : World) : Calls Tryd.prog 36 #[d.agg] w fun e w' => e = .returned (.bool (accV d)) ∧ Below w.heap.size w w' := by
  have LL := hide (Hq.nil w [])
  unfold accV
  simp only [dagg]
  cases hg : (d.g.k != 0)
  · cases hs : (d.s.k != 0)
    · go_enter Tryd.func36, Tryd.ntmps36
      go_wp2_with (first | go_skip | ((with_reducible show wpList _ _ _ _ _ _); first | ((refine bx 32 (d.cs) (by rfl) rfl rfl rfl (Nat.succ_pos _) (unhide LL) ?_); intro X1 B1 hE1 L1 hb1; have hB1 := hide (Nat.le_trans (unhide LL).fr.size (Nat.le_of_eq hE1.symm)); replace LL := hide L1; clear L1 hb1 hE1; simp only [Act.put, List.setIfInBounds_toArray, List.set_cons_succ, List.set_cons_zero]) | ((refine rd (by rfl) (ex_load1 3 Tryd.isAgg3 rfl rfl ((unhide LL).get 0 rfl) rfl) ?_); simp only [Act.put, List.setIfInBounds_toArray, List.set_cons_succ, List.set_cons_zero]) | ((refine rd (by rfl) (ex_neI rfl rfl rfl hg) ?_); simp only [Act.put, List.setIfInBounds_toArray, List.set_cons_succ, List.set_cons_zero]) | ((refine rd (by rfl) (ex_neI rfl rfl rfl hs) ?_); simp only [Act.put, List.setIfInBounds_toArray, List.set_cons_succ, List.set_cons_zero])))
      go_ret
      exact ⟨rfl, (unhide LL).fr.below⟩
    · go_enter Tryd.func36, Tryd.ntmps36
      go_wp2_with (first | go_skip | ((with_reducible show wpList _ _ _ _ _ _); first | ((refine bx 32 (d.cs) (by rfl) rfl rfl rfl (Nat.succ_pos _) (unhide LL) ?_); intro X1 B1 hE1 L1 hb1; have hB1 := hide (Nat.le_trans (unhide LL).fr.size (Nat.le_of_eq hE1.symm)); replace LL := hide L1; clear L1 hb1 hE1; simp only [Act.put, List.setIfInBounds_toArray, List.set_cons_succ, List.set_cons_zero]) | ((refine rd (by rfl) (ex_load1 3 Tryd.isAgg3 rfl rfl ((unhide LL).get 0 rfl) rfl) ?_); simp only [Act.put, List.setIfInBounds_toArray, List.set_cons_succ, List.set_cons_zero]) | ((refine rd (by rfl) (ex_neI rfl rfl rfl hg) ?_); simp only [Act.put, List.setIfInBounds_toArray, List.set_cons_succ, List.set_cons_zero]) | ((refine rd (by rfl) (ex_neI rfl rfl rfl hs) ?_); simp only [Act.put, List.setIfInBounds_toArray, List.set_cons_succ, List.set_cons_zero])))
      go_ret
      exact ⟨rfl, (unhide LL).fr.below⟩
  · have hs : (d.s.k != 0) = (d.s.k != 0) := rfl
    go_enter Tryd.func36, Tryd.ntmps36
    go_wp2_with (first | go_skip | ((with_reducible show wpList _ _ _ _ _ _); first | ((refine bx 32 (d.cs) (by rfl) rfl rfl rfl (Nat.succ_pos _) (unhide LL) ?_); intro X1 B1 hE1 L1 hb1; have hB1 := hide (Nat.le_trans (unhide LL).fr.size (Nat.le_of_eq hE1.symm)); replace LL := hide L1; clear L1 hb1 hE1; simp only [Act.put, List.setIfInBounds_toArray, List.set_cons_succ, List.set_cons_zero]) | ((refine rd (by rfl) (ex_load1 3 Tryd.isAgg3 rfl rfl ((unhide LL).get 0 rfl) rfl) ?_); simp only [Act.put, List.setIfInBounds_toArray, List.set_cons_succ, List.set_cons_zero]) | ((refine rd (by rfl) (ex_neI rfl rfl rfl hg) ?_); simp only [Act.put, List.setIfInBounds_toArray, List.set_cons_succ, List.set_cons_zero]) | ((refine rd (by rfl) (ex_neI rfl rfl rfl hs) ?_); simp only [Act.put, List.setIfInBounds_toArray, List.set_cons_succ, List.set_cons_zero])))
    go_ret
    exact ⟨rfl, (unhide LL).fr.below⟩
theorem oI_any {α : Type} (l : List α) (q : α → Bool) : decide (0 ≤ oI (l.findIdx? q)) = l.any q := by
  cases h : l.findIdx? q with
  | none =>
    rw [List.findIdx?_eq_none_iff] at h
    have : l.any q = false := by
      rw [List.any_eq_false]
      intro x hx
      simp [h x hx]
    rw [this]
    simp [oI]
  | some j =>
    obtain ⟨hj, hq, _⟩ := List.findIdx?_eq_some_iff_getElem.1 h
    have : l.any q = true := by
      rw [List.any_eq_true]
      exact ⟨_, List.getElem_mem hj, hq⟩
    rw [this]
    simp [oI]
theorem qx_at {α : Type} {l : List α} {q : α → Bool} {i : Nat} {p : α} (hp : l[i]? = some p) (hq : q p = true) (hlt : ∀ (j : Nat) (r : α), j < i → l[j]? = some r → q r = false) : oI (l.findIdx? q) = (i : Int) := by
  obtain ⟨hi, rfl⟩ := List.getElem?_eq_some_iff.1 hp
  have e : l.findIdx? q = some i := by
    rw [List.findIdx?_eq_some_iff_getElem]
    exact ⟨hi, hq, fun j hj => by rw [hlt j _ hj (List.getElem?_eq_getElem (by omega))]; simp⟩
  rw [e]; rfl
theorem qx_no {α : Type} {l : List α} {q : α → Bool} (hlt : ∀ (j : Nat) (r : α), j < l.length → l[j]? = some r → q r = false) : oI (l.findIdx? q) = -1 := by
  have e : l.findIdx? q = none := by
    rw [List.findIdx?_eq_none_iff]
    intro x hx
    obtain ⟨j, hj⟩ := List.getElem?_of_mem hx
    exact hlt j x (List.getElem?_eq_some_iff.1 hj).1 hj
  rw [e]; rfl
def NoQ {α : Type} (l : List α) (q : α → Bool) (i : Nat) : Prop := ∀ (j : Nat) (r : α), j < i → l[j]? = some r → q r = false
theorem NoQ.zero {α : Type} (l : List α) (q : α → Bool) : NoQ l q 0 := fun j q hj => absurd hj (Nat.not_lt_zero _)
theorem NoQ.step {α : Type} {l : List α} {q : α → Bool} {i : Nat} {p : α} (h : NoQ l q i) (hp : l[i]? = some p) (hk : q p = false) : NoQ l q (i + 1) := fun j r hj hq => by
  rcases Nat.lt_succ_iff_lt_or_eq.1 hj with h1 | h1
  · exact h j r h1 hq
  · subst h1
    rw [hp] at hq
    cases hq
    exact hk
set_option maxRecDepth 100000 in
theorem IxI (B : Option Addr) (cap : Nat) (ps : List Int) (q : Int → Bool) (w : World) (hR : ReadsI w B ps) (hz : ps.length ≤ 733007751850) (HC : ∀ (j : Nat) (p : Int), ps[j]? = some p → ∀ X, Fr w X [] → Calls Tryd.prog 19 #[.int .i64 p] X fun e X' => e = .returned (.bool (q p)) ∧ Below X.heap.size X X') : Calls Tryd.prog 32 #[.slice B ps.length cap, .func (.func 19) #[] #[]] w fun e w' => e = .returned (.int .i64 (oI (ps.findIdx? q))) ∧ Below w.heap.size w w' := by
  have LL := hide (Hq.nil w [])
  have HR := hide hR
  have HZ := hide hz
  have HCC := hide HC
  clear hR hz HC
  go_enter Tryd.func32, Tryd.ntmps32
  go_wp2_with (first | go_skip | ((with_reducible show wpList _ _ _ _ _ _); first | ((refine rd (by rfl) (ex_lenG 59 3 Tryd.underlying59 rfl rfl) ?_); simp only [Act.put, List.setIfInBounds_toArray, List.set_cons_succ, List.set_cons_zero])))
  go_loopg [8] ps.length (fun gm s8 wr => ∃ i : Nat, s8 = .int .i64 (i : Nat) ∧ i ≤ ps.length ∧ ps.length - i ≤ gm ∧ Hid (NoQ ps q i) ∧ Hid (Hq w wr [] []))
  case atStart => exact ⟨0, rfl, by omega, by omega, hide (NoQ.zero ps q), LL⟩
  case round =>
    clear LL
    obtain ⟨i, rfl, hil, hgm, HD, LL⟩ := hrel
    by_cases hlt : i < ps.length
    · have dlt : decide ((i : Int) < (ps.length : Int)) = true := decide_eq_true (by omega)
      have hw1 : IntKind.i64.wrap ((i : Int) + 1) = (i : Int) + 1 := by have := unhide HZ; rw [IntKind.wrap_i64]; omega
      obtain ⟨p, hp⟩ : ∃ p, ps[i]? = some p := ⟨_, List.getElem?_eq_getElem hlt⟩
      obtain ⟨b, off, hA, hb, hrg⟩ := (unhide HR) i p hp
      subst hA
      have HA2 : Hid (∀ X, Fr w X [] → X.cell? ⟨b, off + i * 1, none⟩ = some (.int .i64 p)) := hide (fun X hX => (rangeAt_fr hrg hb hX) 0 _ rfl)
      have HC := hide ((unhide HCC) i p hp)
      have HLT := hide hlt
      clear hil hlt hb hrg
      go_wp2_with (first | go_skip | ((with_reducible show wpList _ _ _ _ _ _); first | ((refine rd (by rfl) (ex_lenG 59 3 Tryd.underlying59 rfl rfl) ?_); simp only [Act.put, List.setIfInBounds_toArray, List.set_cons_succ, List.set_cons_zero]) | ((refine rd (by rfl) (ex_indexG 59 1 i unIs idIs rfl rfl rfl (unhide HLT)) ?_); simp only [Act.put, List.setIfInBounds_toArray, List.set_cons_succ, List.set_cons_zero]) | ((refine rd (by rfl) (ex_loadC 3 Tryd.isAgg3 rfl rfl (unhide HA2 _ (unhide LL).fr)) ?_); simp only [Act.put, List.setIfInBounds_toArray, List.set_cons_succ, List.set_cons_zero])))
      refine (unhide HC _ (unhide LL).fr).mono ?_
      rintro e X5 ⟨rfl, hb5⟩
      replace LL := hide ((unhide LL).on hb5)
      clear hb5
      cases hqp : q p
      · have HD2 := hide ((unhide HD).step hp hqp)
        clear hqp hp HD
        go_wp2_with (first | go_skip | ((with_reducible show wpList _ _ _ _ _ _); first | ((refine rd (by rfl) (ex_lenG 59 3 Tryd.underlying59 rfl rfl) ?_); simp only [Act.put, List.setIfInBounds_toArray, List.set_cons_succ, List.set_cons_zero]) | ((refine rd (by rfl) (ex_indexG 59 1 i unIs idIs rfl rfl rfl (unhide HLT)) ?_); simp only [Act.put, List.setIfInBounds_toArray, List.set_cons_succ, List.set_cons_zero]) | ((refine rd (by rfl) (ex_loadC 3 Tryd.isAgg3 rfl rfl (unhide HA2 _ (unhide LL).fr)) ?_); simp only [Act.put, List.setIfInBounds_toArray, List.set_cons_succ, List.set_cons_zero])))
        go_roundg (ps.length - (i + 1))
        case measure => have := unhide HLT; omega
        case rel => exact ⟨i + 1, by go_num, by have := unhide HLT; omega, by omega, HD2, LL⟩
      · have HF := hide (qx_at hp hqp (unhide HD))
        clear hqp hp HD
        go_wp2_with (first | go_skip | ((with_reducible show wpList _ _ _ _ _ _); first | ((refine rd (by rfl) (ex_lenG 59 3 Tryd.underlying59 rfl rfl) ?_); simp only [Act.put, List.setIfInBounds_toArray, List.set_cons_succ, List.set_cons_zero]) | ((refine rd (by rfl) (ex_indexG 59 1 i unIs idIs rfl rfl rfl (unhide HLT)) ?_); simp only [Act.put, List.setIfInBounds_toArray, List.set_cons_succ, List.set_cons_zero]) | ((refine rd (by rfl) (ex_loadC 3 Tryd.isAgg3 rfl rfl (unhide HA2 _ (unhide LL).fr)) ?_); simp only [Act.put, List.setIfInBounds_toArray, List.set_cons_succ, List.set_cons_zero])))
        go_ret
        exact ⟨by rw [unhide HF]; rfl, (unhide LL).fr.below⟩
    · obtain rfl : i = ps.length := by omega
      have HF := hide (qx_no (unhide HD))
      clear hlt hil HD
      go_wp2_with (first | go_skip | ((with_reducible show wpList _ _ _ _ _ _); first | ((refine rd (by rfl) (ex_lenG 59 3 Tryd.underlying59 rfl rfl) ?_); simp only [Act.put, List.setIfInBounds_toArray, List.set_cons_succ, List.set_cons_zero])))
      go_ret
      exact ⟨by rw [unhide HF]; rfl, (unhide LL).fr.below⟩
set_option maxRecDepth 100000 in
theorem hasIxI (B : Option Addr) (cap : Nat) (ps : List Int) (q : Int → Bool) (w : World) (hR : ReadsI w B ps) (hz : ps.length ≤ 733007751850) (HC : ∀ (j : Nat) (p : Int), ps[j]? = some p → ∀ X, Fr w X [] → Calls Tryd.prog 19 #[.int .i64 p] X fun e X' => e = .returned (.bool (q p)) ∧ Below X.heap.size X X') : Calls Tryd.prog 20 #[.slice B ps.length cap, .func (.func 19) #[] #[]] w fun e w' => e = .returned (.bool (ps.any q)) ∧ Below w.heap.size w w' := by
  have HI := hide (IxI B cap ps q w hR hz HC)
  have hq := oI_any ps q
  clear HC hR hz
  generalize oI (ps.findIdx? q) = r at *
  generalize ps.any q = t at *
  go_enter Tryd.func20, Tryd.ntmps20
  go_wp2_with fail
  refine (unhide HI).mono ?_
  rintro e X5 ⟨rfl, hb5⟩
  have HB := hide hb5
  clear hb5
  go_wp2
  go_ret
  exact ⟨by simp [← hq], unhide HB⟩
set_option maxRecDepth 100000 in
theorem IxO (B : Option Addr) (cap : Nat) (ps : List OP) (q : OP → Bool) (w : World) (hR : ReadsO w B ps) (hz : ps.length ≤ 733007751850) (HC : ∀ (j : Nat) (p : OP), ps[j]? = some p → ∀ X, Fr w X [] → Calls Tryd.prog 12 #[p.agg] X fun e X' => e = .returned (.bool (q p)) ∧ Below X.heap.size X X') : Calls Tryd.prog 18 #[.slice B ps.length cap, .func (.func 12) #[] #[]] w fun e w' => e = .returned (.int .i64 (oI (ps.findIdx? q))) ∧ Below w.heap.size w w' := by
  have LL := hide (Hq.nil w [])
  have HR := hide hR
  have HZ := hide hz
  have HCC := hide HC
  clear hR hz HC
  go_enter Tryd.func18, Tryd.ntmps18
  go_wp2_with (first | go_skip | ((with_reducible show wpList _ _ _ _ _ _); first | ((refine rd (by rfl) (ex_lenG 22 34 Tryd.underlying22 rfl rfl) ?_); simp only [Act.put, List.setIfInBounds_toArray, List.set_cons_succ, List.set_cons_zero])))
  go_loopg [8] ps.length (fun gm s8 wr => ∃ i : Nat, s8 = .int .i64 (i : Nat) ∧ i ≤ ps.length ∧ ps.length - i ≤ gm ∧ Hid (NoQ ps q i) ∧ Hid (Hq w wr [] []))
  case atStart => exact ⟨0, rfl, by omega, by omega, hide (NoQ.zero ps q), LL⟩
  case round =>
    clear LL
    obtain ⟨i, rfl, hil, hgm, HD, LL⟩ := hrel
    by_cases hlt : i < ps.length
    · have dlt : decide ((i : Int) < (ps.length : Int)) = true := decide_eq_true (by omega)
      have hw1 : IntKind.i64.wrap ((i : Int) + 1) = (i : Int) + 1 := by have := unhide HZ; rw [IntKind.wrap_i64]; omega
      obtain ⟨p, hp⟩ : ∃ p, ps[i]? = some p := ⟨_, List.getElem?_eq_getElem hlt⟩
      obtain ⟨_, b, off, hA, hb, hrg⟩ := (unhide HR) i p hp
      subst hA
      have HA2 : Hid (∀ X, Fr w X [] → X.rangeAt b (off + i * 32) p.cs) := hide (fun X hX => rangeAt_fr hrg hb hX)
      have HC := hide ((unhide HCC) i p hp)
      simp only [oagg] at HC
      have HLT := hide hlt
      clear hil hlt hb hrg
      go_wp2_with (first | go_skip | ((with_reducible show wpList _ _ _ _ _ _); first | ((refine rd (by rfl) (ex_lenG 22 34 Tryd.underlying22 rfl rfl) ?_); simp only [Act.put, List.setIfInBounds_toArray, List.set_cons_succ, List.set_cons_zero]) | ((refine rd (by rfl) (ex_indexG 22 32 i unOs idOs rfl rfl rfl (unhide HLT)) ?_); simp only [Act.put, List.setIfInBounds_toArray, List.set_cons_succ, List.set_cons_zero]) | ((refine rd (by rfl) (ex_loadR (vs := p.cs) 34 32 rwO szO rfl rfl (unhide HA2 _ (unhide LL).fr) rfl) ?_); simp only [Act.put, List.setIfInBounds_toArray, List.set_cons_succ, List.set_cons_zero])))
      refine (unhide HC _ (unhide LL).fr).mono ?_
      rintro e X5 ⟨rfl, hb5⟩
      replace LL := hide ((unhide LL).on hb5)
      clear hb5
      cases hqp : q p
      · have HD2 := hide ((unhide HD).step hp hqp)
        clear hqp hp HD
        go_wp2_with (first | go_skip | ((with_reducible show wpList _ _ _ _ _ _); first | ((refine rd (by rfl) (ex_lenG 22 34 Tryd.underlying22 rfl rfl) ?_); simp only [Act.put, List.setIfInBounds_toArray, List.set_cons_succ, List.set_cons_zero]) | ((refine rd (by rfl) (ex_indexG 22 32 i unOs idOs rfl rfl rfl (unhide HLT)) ?_); simp only [Act.put, List.setIfInBounds_toArray, List.set_cons_succ, List.set_cons_zero]) | ((refine rd (by rfl) (ex_loadR (vs := p.cs) 34 32 rwO szO rfl rfl (unhide HA2 _ (unhide LL).fr) rfl) ?_); simp only [Act.put, List.setIfInBounds_toArray, List.set_cons_succ, List.set_cons_zero])))
        go_roundg (ps.length - (i + 1))
        case measure => have := unhide HLT; omega
        case rel => exact ⟨i + 1, by go_num, by have := unhide HLT; omega, by omega, HD2, LL⟩
      · have HF := hide (qx_at hp hqp (unhide HD))
        clear hqp hp HD
        go_wp2_with (first | go_skip | ((with_reducible show wpList _ _ _ _ _ _); first | ((refine rd (by rfl) (ex_lenG 22 34 Tryd.underlying22 rfl rfl) ?_); simp only [Act.put, List.setIfInBounds_toArray, List.set_cons_succ, List.set_cons_zero]) | ((refine rd (by rfl) (ex_indexG 22 32 i unOs idOs rfl rfl rfl (unhide HLT)) ?_); simp only [Act.put, List.setIfInBounds_toArray, List.set_cons_succ, List.set_cons_zero]) | ((refine rd (by rfl) (ex_loadR (vs := p.cs) 34 32 rwO szO rfl rfl (unhide HA2 _ (unhide LL).fr) rfl) ?_); simp only [Act.put, List.setIfInBounds_toArray, List.set_cons_succ, List.set_cons_zero])))
        go_ret
        exact ⟨by rw [unhide HF]; rfl, (unhide LL).fr.below⟩
    · obtain rfl : i = ps.length := by omega
      have HF := hide (qx_no (unhide HD))
      clear hlt hil HD
      go_wp2_with (first | go_skip | ((with_reducible show wpList _ _ _ _ _ _); first | ((refine rd (by rfl) (ex_lenG 22 34 Tryd.underlying22 rfl rfl) ?_); simp only [Act.put, List.setIfInBounds_toArray, List.set_cons_succ, List.set_cons_zero])))
      go_ret
      exact ⟨by rw [unhide HF]; rfl, (unhide LL).fr.below⟩
set_option maxRecDepth 100000 in
theorem hasIxO (B : Option Addr) (cap : Nat) (ps : List OP) (q : OP → Bool) (w : World) (hR : ReadsO w B ps) (hz : ps.length ≤ 733007751850) (HC : ∀ (j : Nat) (p : OP), ps[j]? = some p → ∀ X, Fr w X [] → Calls Tryd.prog 12 #[p.agg] X fun e X' => e = .returned (.bool (q p)) ∧ Below X.heap.size X X') : Calls Tryd.prog 11 #[.slice B ps.length cap, .func (.func 12) #[] #[]] w fun e w' => e = .returned (.bool (ps.any q)) ∧ Below w.heap.size w w' := by
  have HI := hide (IxO B cap ps q w hR hz HC)
  have hq := oI_any ps q
  clear HC hR hz
  generalize oI (ps.findIdx? q) = r at *
  generalize ps.any q = t at *
  go_enter Tryd.func11, Tryd.ntmps11
  go_wp2_with fail
  refine (unhide HI).mono ?_
  rintro e X5 ⟨rfl, hb5⟩
  have HB := hide hb5
  clear hb5
  go_wp2
  go_ret
  exact ⟨by simp [← hq], unhide HB⟩
end Go.Proofs.YteohiamifoonkaaDoor
