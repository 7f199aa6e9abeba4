import Derived.Test.YtmgflhhealdfoaaGreatDoorRg
set_option linter.all false
namespace Go.Proofs.YtmgflhhealdfoaaGreatDoor
set_option maxHeartbeats 1000000
section
open Go Go.Proofs Go.Maps Go.RowKit FM
/-- An operation: code, To, A, B, C, key, value, descriptor, Flag, Catch. -/
structure OP where
  c : Int
  t : Int
  a : Int
  b : Int
  d : Int
  k : KK
  v : VV
  e : DD
  f : Bool
  g : Bool
def OP.cs (o : OP) : List Value := [.int .i64 o.c, .int .i64 o.t, .int .i64 o.a, .int .i64 o.b, .int .i64 o.d] ++ o.k.cs ++ o.v.cs ++ o.e.cs ++ [.bool o.f, .bool o.g]
def OP.agg (o : OP) : Value := .agg o.cs.toArray
theorem pcs_length (o : OP) : o.cs.length = 32 := rfl
theorem pagg (o : OP) : o.agg = .agg o.cs.toArray := rfl
theorem pcs_one (o : OP) : ∀ u ∈ o.cs, u.oneCell' = true := by simp [OP.cs, KK.cs, VV.cs, DD.cs, Value.oneCell']
def OkC (c : Int) : Prop := c = 1 ∨ c = 3 ∨ c = 4 ∨ c = 7 ∨ c = 8 ∨ c = 10 ∨ c = 12
def OkO (o : OP) : Prop := FD o.e ∧ o.v.x < 2 ^ 64 ∧ OkC o.c
/-- A slice whose elements are these operations. -/
def ReadsO (w : World) (A : Option Addr) (l : List OP) : Prop := ∀ j o, l[j]? = some o → OkO o ∧ ∃ b off, A = some ⟨b, off, none⟩ ∧ b < w.heap.size ∧ w.rangeAt b (off + j * 32) o.cs
/-- A slice whose elements are these ints. -/
def ReadsI (w : World) (A : Option Addr) (l : List Int) : Prop := ∀ j n, l[j]? = some n → ∃ b off, A = some ⟨b, off, none⟩ ∧ b < w.heap.size ∧ w.rangeAt b (off + j * 1) [.int .i64 n]
theorem unIs : Tryz.prog.underlying 111 = some (.slice (Tryz.prog.elem 111)) := by kernel_rfl
theorem idIs (w : World) : (sizeOf (Tryz.prog.elem 111)).run Tryz.prog w = .ok 1 w := by kernel_rfl
theorem unPos : Tryz.prog.underlying 41 = some (.slice (Tryz.prog.elem 41)) := by kernel_rfl
theorem idPos (w : World) : (sizeOf (Tryz.prog.elem 41)).run Tryz.prog w = .ok 32 w := by kernel_rfl
def rgB (n : Int) : Bool := decide (0 ≤ n) && decide (n < 16)
def useK (c : Int) : Bool := c == 10 || c == 12
def accD (d : DD) : Bool := d.g.k != 0 || d.s.k != 0
def oI : Option Nat → Int
  | some j => (j : Int)
  | none => -1
theorem ex_neI {o : Oper} {a : Act} {w : World} {x y : Operand} {n m : Int} {r : Bool} (ho : o.op = .binOp .neq 3 x y 3) (hx : a.eval x = .int .i64 n) (hc : a.eval y = .int .i64 m) (h : (n != m) = r) : (execOp a.eval o).run Tryz.prog w = .ok (.value (.bool r)) w := by
  unfold execOp
  simp only [ho, hx, hc]
  simp [go_sem, eqGuard, h]
theorem ex_geI {o : Oper} {a : Act} {w : World} {x y : Operand} {n m : Int} {r : Bool} (ho : o.op = .binOp .geq 3 x y 3) (hx : a.eval x = .int .i64 n) (hc : a.eval y = .int .i64 m) (h : decide (m ≤ n) = r) : (execOp a.eval o).run Tryz.prog w = .ok (.value (.bool r)) w := by
  unfold execOp
  simp only [ho, hx, hc]
  simp [go_sem, eqGuard, h]
theorem ex_leI {o : Oper} {a : Act} {w : World} {x y : Operand} {n m : Int} {r : Bool} (ho : o.op = .binOp .leq 3 x y 3) (hx : a.eval x = .int .i64 n) (hc : a.eval y = .int .i64 m) (h : decide (n ≤ m) = r) : (execOp a.eval o).run Tryz.prog w = .ok (.value (.bool r)) w := by
  unfold execOp
  simp only [ho, hx, hc]
  simp [go_sem, eqGuard, h]
theorem ex_ltI {o : Oper} {a : Act} {w : World} {x y : Operand} {n m : Int} {r : Bool} (ho : o.op = .binOp .lss 3 x y 3) (hx : a.eval x = .int .i64 n) (hc : a.eval y = .int .i64 m) (h : decide (n < m) = r) : (execOp a.eval o).run Tryz.prog w = .ok (.value (.bool r)) w := by
  unfold execOp
  simp only [ho, hx, hc]
  simp [go_sem, eqGuard, h]
theorem ex_gtI2 {o : Oper} {a : Act} {w : World} {x y : Operand} {n m : Int} {r : Bool} (ho : o.op = .binOp .gtr 3 x y 3) (hx : a.eval x = .int .i64 n) (hc : a.eval y = .int .i64 m) (h : decide (m < n) = r) : (execOp a.eval o).run Tryz.prog w = .ok (.value (.bool r)) w := by
  unfold execOp
  simp only [ho, hx, hc]
  simp [go_sem, eqGuard, h]
theorem ex_eqI {o : Oper} {a : Act} {w : World} {x y : Operand} {n m : Int} {r : Bool} (ho : o.op = .binOp .eql 3 x y 3) (hx : a.eval x = .int .i64 n) (hc : a.eval y = .int .i64 m) (h : (n == m) = r) : (execOp a.eval o).run Tryz.prog w = .ok (.value (.bool r)) w := by
  unfold execOp
  simp only [ho, hx, hc]
  simp [go_sem, eqGuard, h]
set_option maxRecDepth 100000 in
theorem noReg_any (n : Int) (w : World) : Calls Tryz.prog 57 #[.int .i64 n] w fun e w' => e = .returned (.bool (!rgB n)) ∧ Below w.heap.size w w' := by
  unfold rgB
  cases h0 : decide (0 ≤ n)
  · have h1 : decide (n < 0) = true := decide_eq_true (by have := of_decide_eq_false h0; omega)
    clear h0
    go_enter Tryz.func57, Tryz.ntmps57
    go_wp2_with (first | go_skip | ((with_reducible show wpList _ _ _ _ _ _); first | (refine rd (by rfl) (ex_ltI rfl rfl rfl h1) ?_; simp only [Act.put, n1, n2, n3])))
    go_ret
    exact ⟨rfl, Below.refl _ _⟩
  · have h1 : decide (n < 0) = false := decide_eq_false (by have := of_decide_eq_true h0; omega)
    clear h0
    cases h2 : decide (n < 16)
    · have h3 : decide (16 ≤ n) = true := decide_eq_true (by have := of_decide_eq_false h2; omega)
      clear h2
      go_enter Tryz.func57, Tryz.ntmps57
      go_wp2_with (first | go_skip | ((with_reducible show wpList _ _ _ _ _ _); first | (refine rd (by rfl) (ex_ltI rfl rfl rfl h1) ?_; simp only [Act.put, n1, n2, n3]) | (refine rd (by rfl) (ex_geI rfl rfl rfl h3) ?_; simp only [Act.put, n1, n2, n3])))
      go_ret
      exact ⟨rfl, Below.refl _ _⟩
    · have h3 : decide (16 ≤ n) = false := decide_eq_false (by have := of_decide_eq_true h2; omega)
      clear h2
      go_enter Tryz.func57, Tryz.ntmps57
      go_wp2_with (first | go_skip | ((with_reducible show wpList _ _ _ _ _ _); first | (refine rd (by rfl) (ex_ltI rfl rfl rfl h1) ?_; simp only [Act.put, n1, n2, n3]) | (refine rd (by rfl) (ex_geI rfl rfl rfl h3) ?_; simp only [Act.put, n1, n2, n3])))
      go_ret
      exact ⟨rfl, Below.refl _ _⟩
set_option maxHeartbeats 2000000 in
set_option maxRecDepth 100000 in
theorem usesKey_any (c : Int) (h1 : OkC c) (w : World) : Calls Tryz.prog 60 #[.int .i64 c] w fun e w' => e = .returned (.bool (useK c)) ∧ Below w.heap.size w w' := by
  rcases h1 with rfl | rfl | rfl | rfl | rfl | rfl | rfl
  all_goals
    go_enter Tryz.func60, Tryz.ntmps60
    go_wp2
    go_ret
    exact ⟨rfl, Below.refl _ _⟩
set_option maxRecDepth 100000 in
theorem accessor_any (d : DD) (w : World) : Calls Tryz.prog 76 #[d.agg] w fun e w' => e = .returned (.bool (accD d)) ∧ Below w.heap.size w w' := by
  have SS := hide (Sy.nil w [])
  unfold accD
  simp only [dagg]
  cases hg : (d.g.k != 0)
  · cases hs : (d.s.k != 0)
    · go_enter Tryz.func76, Tryz.ntmps76
      go_wp2_with (first | go_skip | ((with_reducible show wpList _ _ _ _ _ _); first | (refine zB 38 (d.cs) (by rfl) rfl rfl rfl SS ?_; clear SS; intro X1 B1 SS; simp only [Act.put, n1, n2, n3]) | (refine z1 3 Tryz.isAgg3 0 (by rfl) rfl rfl SS rfl rfl ?_; simp only [Act.put, n1, n2, n3]) | (refine rd (by rfl) (ex_neI rfl rfl rfl hg) ?_; simp only [Act.put, n1, n2, n3]) | (refine rd (by rfl) (ex_neI rfl rfl rfl hs) ?_; simp only [Act.put, n1, n2, n3])))
      go_ret
      exact ⟨rfl, (unhide SS).fr.below⟩
    · go_enter Tryz.func76, Tryz.ntmps76
      go_wp2_with (first | go_skip | ((with_reducible show wpList _ _ _ _ _ _); first | (refine zB 38 (d.cs) (by rfl) rfl rfl rfl SS ?_; clear SS; intro X1 B1 SS; simp only [Act.put, n1, n2, n3]) | (refine z1 3 Tryz.isAgg3 0 (by rfl) rfl rfl SS rfl rfl ?_; simp only [Act.put, n1, n2, n3]) | (refine rd (by rfl) (ex_neI rfl rfl rfl hg) ?_; simp only [Act.put, n1, n2, n3]) | (refine rd (by rfl) (ex_neI rfl rfl rfl hs) ?_; simp only [Act.put, n1, n2, n3])))
      go_ret
      exact ⟨rfl, (unhide SS).fr.below⟩
  · have hs : (d.s.k != 0) = (d.s.k != 0) := rfl
    go_enter Tryz.func76, Tryz.ntmps76
    go_wp2_with (first | go_skip | ((with_reducible show wpList _ _ _ _ _ _); first | (refine zB 38 (d.cs) (by rfl) rfl rfl rfl SS ?_; clear SS; intro X1 B1 SS; simp only [Act.put, n1, n2, n3]) | (refine z1 3 Tryz.isAgg3 0 (by rfl) rfl rfl SS rfl rfl ?_; simp only [Act.put, n1, n2, n3]) | (refine rd (by rfl) (ex_neI rfl rfl rfl hg) ?_; simp only [Act.put, n1, n2, n3]) | (refine rd (by rfl) (ex_neI rfl rfl rfl hs) ?_; simp only [Act.put, n1, n2, n3])))
    go_ret
    exact ⟨rfl, (unhide SS).fr.below⟩
theorem oI_any {α : Type} (l : List α) (q : α → Bool) : decide (0 ≤ oI (l.findIdx? q)) = l.any q := by
  cases h : l.findIdx? q with
  | none =>
    rw [List.findIdx?_eq_none_iff] at h
    have : l.any q = false := by
      rw [List.any_eq_false]
      intro x hx
      simp [h x hx]
    rw [this]
    simp [oI]
  | some j =>
    obtain ⟨hj, hq, _⟩ := List.findIdx?_eq_some_iff_getElem.1 h
    have : l.any q = true := by
      rw [List.any_eq_true]
      exact ⟨_, List.getElem_mem hj, hq⟩
    rw [this]
    simp [oI]
theorem qx_at {α : Type} {l : List α} {q : α → Bool} {i : Nat} {p : α} (hp : l[i]? = some p) (hq : q p = true) (hlt : ∀ (j : Nat) (r : α), j < i → l[j]? = some r → q r = false) : oI (l.findIdx? q) = (i : Int) := by
  obtain ⟨hi, rfl⟩ := List.getElem?_eq_some_iff.1 hp
  have e : l.findIdx? q = some i := by
    rw [List.findIdx?_eq_some_iff_getElem]
    exact ⟨hi, hq, fun j hj => by rw [hlt j _ hj (List.getElem?_eq_getElem (by omega))]; simp⟩
  rw [e]; rfl
theorem qx_no {α : Type} {l : List α} {q : α → Bool} (hlt : ∀ (j : Nat) (r : α), j < l.length → l[j]? = some r → q r = false) : oI (l.findIdx? q) = -1 := by
  have e : l.findIdx? q = none := by
    rw [List.findIdx?_eq_none_iff]
    intro x hx
    obtain ⟨j, hj⟩ := List.getElem?_of_mem hx
    exact hlt j x (List.getElem?_eq_some_iff.1 hj).1 hj
  rw [e]; rfl
def NoQ {α : Type} (l : List α) (q : α → Bool) (i : Nat) : Prop := ∀ (j : Nat) (r : α), j < i → l[j]? = some r → q r = false
theorem NoQ.zero {α : Type} (l : List α) (q : α → Bool) : NoQ l q 0 := fun j q hj => absurd hj (Nat.not_lt_zero _)
theorem NoQ.step {α : Type} {l : List α} {q : α → Bool} {i : Nat} {p : α} (h : NoQ l q i) (hp : l[i]? = some p) (hk : q p = false) : NoQ l q (i + 1) := fun j r hj hq => by
  rcases Nat.lt_succ_iff_lt_or_eq.1 hj with h1 | h1
  · exact h j r h1 hq
  · subst h1
    rw [hp] at hq
    cases hq
    exact hk
set_option maxRecDepth 100000 in
theorem IxI (B : Option Addr) (cap : Nat) (ps : List Int) (q : Int → Bool) (w : World) (hR : ReadsI w B ps) (hz : ps.length ≤ 733007751850) (HC : ∀ (j : Nat) (p : Int), ps[j]? = some p → ∀ X, Below w.heap.size w X → Calls Tryz.prog 57 #[.int .i64 p] X fun e X' => e = .returned (.bool (q p)) ∧ Below X.heap.size X X') : Calls Tryz.prog 75 #[.slice B ps.length cap, .func (.func 57) #[] #[]] w fun e w' => e = .returned (.int .i64 (oI (ps.findIdx? q))) ∧ Below w.heap.size w w' := by
  have SS := hide (Sy.nil w [])
  have HR := hide hR
  have HZ := hide hz
  have HCC := hide HC
  clear hR hz HC
  go_enter Tryz.func75, Tryz.ntmps75
  go_wp2_with (first | go_skip | ((with_reducible show wpList _ _ _ _ _ _); first | (refine rd (by rfl) (ex_lenG 111 3 Tryz.underlying111 rfl rfl) ?_; simp only [Act.put, n1, n2, n3])))
  go_loopg [8] ps.length (fun gm s8 wr => ∃ i : Nat, s8 = .int .i64 (i : Nat) ∧ i ≤ ps.length ∧ ps.length - i ≤ gm ∧ Hid (NoQ ps q i) ∧ Hid (Sy w wr [] []))
  case atStart => exact ⟨0, rfl, by omega, by omega, hide (NoQ.zero ps q), SS⟩
  case round =>
    clear SS
    obtain ⟨i, rfl, hil, hgm, HD, SS⟩ := hrel
    by_cases hlt : i < ps.length
    · have dlt : decide ((i : Int) < (ps.length : Int)) = true := decide_eq_true (by omega)
      have hw1 : IntKind.i64.wrap ((i : Int) + 1) = (i : Int) + 1 := by have := unhide HZ; rw [IntKind.wrap_i64]; omega
      obtain ⟨p, hp⟩ : ∃ p, ps[i]? = some p := ⟨_, List.getElem?_eq_getElem hlt⟩
      obtain ⟨b, off, hA, hb, hrg⟩ := (unhide HR) i p hp
      subst hA
      have HA2 : Hid (∀ X, Below w.heap.size w X → X.cell? ⟨b, off + i * 1, none⟩ = some (.int .i64 p)) := hide (fun X hX => (rangeAt_on hrg hb hX) 0 _ rfl)
      have HC := hide ((unhide HCC) i p hp)
      have HLT := hide hlt
      clear hil hlt hb hrg
      go_wp2_with (first | go_skip | ((with_reducible show wpList _ _ _ _ _ _); first | (refine rd (by rfl) (ex_lenG 111 3 Tryz.underlying111 rfl rfl) ?_; simp only [Act.put, n1, n2, n3]) | (refine rd (by rfl) (ex_indexG 111 1 i unIs idIs rfl rfl rfl (unhide HLT)) ?_; simp only [Act.put, n1, n2, n3]) | (refine rd (by rfl) (ex_loadC 3 Tryz.isAgg3 rfl rfl (unhide HA2 _ (unhide SS).fr.below)) ?_; simp only [Act.put, n1, n2, n3])))
      refine (unhide HC _ (unhide SS).fr.below).mono ?_
      rintro e X5 ⟨rfl, hb5⟩
      replace SS := hide ((unhide SS).on hb5)
      clear hb5
      cases hqp : q p
      · have HD2 := hide ((unhide HD).step hp hqp)
        clear hqp hp HD
        go_wp2_with (first | go_skip | ((with_reducible show wpList _ _ _ _ _ _); first | (refine rd (by rfl) (ex_lenG 111 3 Tryz.underlying111 rfl rfl) ?_; simp only [Act.put, n1, n2, n3]) | (refine rd (by rfl) (ex_indexG 111 1 i unIs idIs rfl rfl rfl (unhide HLT)) ?_; simp only [Act.put, n1, n2, n3]) | (refine rd (by rfl) (ex_loadC 3 Tryz.isAgg3 rfl rfl (unhide HA2 _ (unhide SS).fr.below)) ?_; simp only [Act.put, n1, n2, n3])))
        go_roundg (ps.length - (i + 1))
        case measure => have := unhide HLT; omega
        case rel => exact ⟨i + 1, by go_num, by have := unhide HLT; omega, by omega, HD2, SS⟩
      · have HF := hide (qx_at hp hqp (unhide HD))
        clear hqp hp HD
        go_wp2_with (first | go_skip | ((with_reducible show wpList _ _ _ _ _ _); first | (refine rd (by rfl) (ex_lenG 111 3 Tryz.underlying111 rfl rfl) ?_; simp only [Act.put, n1, n2, n3]) | (refine rd (by rfl) (ex_indexG 111 1 i unIs idIs rfl rfl rfl (unhide HLT)) ?_; simp only [Act.put, n1, n2, n3]) | (refine rd (by rfl) (ex_loadC 3 Tryz.isAgg3 rfl rfl (unhide HA2 _ (unhide SS).fr.below)) ?_; simp only [Act.put, n1, n2, n3])))
        go_ret
        exact ⟨by rw [unhide HF]; rfl, (unhide SS).fr.below⟩
    · obtain rfl : i = ps.length := by omega
      have HF := hide (qx_no (unhide HD))
      clear hlt hil HD
      go_wp2_with (first | go_skip | ((with_reducible show wpList _ _ _ _ _ _); first | (refine rd (by rfl) (ex_lenG 111 3 Tryz.underlying111 rfl rfl) ?_; simp only [Act.put, n1, n2, n3])))
      go_ret
      exact ⟨by rw [unhide HF]; rfl, (unhide SS).fr.below⟩
set_option maxRecDepth 100000 in
theorem hasIxI (B : Option Addr) (cap : Nat) (ps : List Int) (q : Int → Bool) (w : World) (hR : ReadsI w B ps) (hz : ps.length ≤ 733007751850) (HC : ∀ (j : Nat) (p : Int), ps[j]? = some p → ∀ X, Below w.heap.size w X → Calls Tryz.prog 57 #[.int .i64 p] X fun e X' => e = .returned (.bool (q p)) ∧ Below X.heap.size X X') : Calls Tryz.prog 58 #[.slice B ps.length cap, .func (.func 57) #[] #[]] w fun e w' => e = .returned (.bool (ps.any q)) ∧ Below w.heap.size w w' := by
  have HI := hide (IxI B cap ps q w hR hz HC)
  have hq := oI_any ps q
  clear HC hR hz
  generalize oI (ps.findIdx? q) = r at *
  generalize ps.any q = t at *
  go_enter Tryz.func58, Tryz.ntmps58
  go_wp2_with fail
  refine (unhide HI).mono ?_
  rintro e X5 ⟨rfl, hb5⟩
  have HB := hide hb5
  clear hb5
  go_wp2
  go_ret
  exact ⟨by simp [← hq], unhide HB⟩
set_option maxRecDepth 100000 in
theorem IxO (B : Option Addr) (cap : Nat) (ps : List OP) (q : OP → Bool) (w : World) (hR : ReadsO w B ps) (hz : ps.length ≤ 733007751850) (HC : ∀ (j : Nat) (p : OP), ps[j]? = some p → ∀ X, Below w.heap.size w X → Calls Tryz.prog 31 #[p.agg] X fun e X' => e = .returned (.bool (q p)) ∧ Below X.heap.size X X') : Calls Tryz.prog 56 #[.slice B ps.length cap, .func (.func 31) #[] #[]] w fun e w' => e = .returned (.int .i64 (oI (ps.findIdx? q))) ∧ Below w.heap.size w w' := by
  have SS := hide (Sy.nil w [])
  have HR := hide hR
  have HZ := hide hz
  have HCC := hide HC
  clear hR hz HC
  go_enter Tryz.func56, Tryz.ntmps56
  go_wp2_with (first | go_skip | ((with_reducible show wpList _ _ _ _ _ _); first | (refine rd (by rfl) (ex_lenG 41 40 Tryz.underlying41 rfl rfl) ?_; simp only [Act.put, n1, n2, n3])))
  go_loopg [8] ps.length (fun gm s8 wr => ∃ i : Nat, s8 = .int .i64 (i : Nat) ∧ i ≤ ps.length ∧ ps.length - i ≤ gm ∧ Hid (NoQ ps q i) ∧ Hid (Sy w wr [] []))
  case atStart => exact ⟨0, rfl, by omega, by omega, hide (NoQ.zero ps q), SS⟩
  case round =>
    clear SS
    obtain ⟨i, rfl, hil, hgm, HD, SS⟩ := hrel
    by_cases hlt : i < ps.length
    · have dlt : decide ((i : Int) < (ps.length : Int)) = true := decide_eq_true (by omega)
      have hw1 : IntKind.i64.wrap ((i : Int) + 1) = (i : Int) + 1 := by have := unhide HZ; rw [IntKind.wrap_i64]; omega
      obtain ⟨p, hp⟩ : ∃ p, ps[i]? = some p := ⟨_, List.getElem?_eq_getElem hlt⟩
      obtain ⟨_, b, off, hA, hb, hrg⟩ := (unhide HR) i p hp
      subst hA
      have HA2 : Hid (∀ X, Below w.heap.size w X → X.rangeAt b (off + i * 32) p.cs) := hide (fun X hX => rangeAt_on hrg hb hX)
      have HC := hide ((unhide HCC) i p hp)
      simp only [pagg] at HC
      have HLT := hide hlt
      clear hil hlt hb hrg
      go_wp2_with (first | go_skip | ((with_reducible show wpList _ _ _ _ _ _); first | (refine rd (by rfl) (ex_lenG 41 40 Tryz.underlying41 rfl rfl) ?_; simp only [Act.put, n1, n2, n3]) | (refine rd (by rfl) (ex_indexG 41 32 i unPos idPos rfl rfl rfl (unhide HLT)) ?_; simp only [Act.put, n1, n2, n3]) | (refine rd (by rfl) (ex_loadR (vs := p.cs) 40 32 rwP_ szP_ rfl rfl (unhide HA2 _ (unhide SS).fr.below) rfl) ?_; simp only [Act.put, n1, n2, n3])))
      refine (unhide HC _ (unhide SS).fr.below).mono ?_
      rintro e X5 ⟨rfl, hb5⟩
      replace SS := hide ((unhide SS).on hb5)
      clear hb5
      cases hqp : q p
      · have HD2 := hide ((unhide HD).step hp hqp)
        clear hqp hp HD
        go_wp2_with (first | go_skip | ((with_reducible show wpList _ _ _ _ _ _); first | (refine rd (by rfl) (ex_lenG 41 40 Tryz.underlying41 rfl rfl) ?_; simp only [Act.put, n1, n2, n3]) | (refine rd (by rfl) (ex_indexG 41 32 i unPos idPos rfl rfl rfl (unhide HLT)) ?_; simp only [Act.put, n1, n2, n3]) | (refine rd (by rfl) (ex_loadR (vs := p.cs) 40 32 rwP_ szP_ rfl rfl (unhide HA2 _ (unhide SS).fr.below) rfl) ?_; simp only [Act.put, n1, n2, n3])))
        go_roundg (ps.length - (i + 1))
        case measure => have := unhide HLT; omega
        case rel => exact ⟨i + 1, by go_num, by have := unhide HLT; omega, by omega, HD2, SS⟩
      · have HF := hide (qx_at hp hqp (unhide HD))
        clear hqp hp HD
        go_wp2_with (first | go_skip | ((with_reducible show wpList _ _ _ _ _ _); first | (refine rd (by rfl) (ex_lenG 41 40 Tryz.underlying41 rfl rfl) ?_; simp only [Act.put, n1, n2, n3]) | (refine rd (by rfl) (ex_indexG 41 32 i unPos idPos rfl rfl rfl (unhide HLT)) ?_; simp only [Act.put, n1, n2, n3]) | (refine rd (by rfl) (ex_loadR (vs := p.cs) 40 32 rwP_ szP_ rfl rfl (unhide HA2 _ (unhide SS).fr.below) rfl) ?_; simp only [Act.put, n1, n2, n3])))
        go_ret
        exact ⟨by rw [unhide HF]; rfl, (unhide SS).fr.below⟩
    · obtain rfl : i = ps.length := by omega
      have HF := hide (qx_no (unhide HD))
      clear hlt hil HD
      go_wp2_with (first | go_skip | ((with_reducible show wpList _ _ _ _ _ _); first | (refine rd (by rfl) (ex_lenG 41 40 Tryz.underlying41 rfl rfl) ?_; simp only [Act.put, n1, n2, n3])))
      go_ret
      exact ⟨by rw [unhide HF]; rfl, (unhide SS).fr.below⟩
set_option maxRecDepth 100000 in
theorem hasIxO (B : Option Addr) (cap : Nat) (ps : List OP) (q : OP → Bool) (w : World) (hR : ReadsO w B ps) (hz : ps.length ≤ 733007751850) (HC : ∀ (j : Nat) (p : OP), ps[j]? = some p → ∀ X, Below w.heap.size w X → Calls Tryz.prog 31 #[p.agg] X fun e X' => e = .returned (.bool (q p)) ∧ Below X.heap.size X X') : Calls Tryz.prog 30 #[.slice B ps.length cap, .func (.func 31) #[] #[]] w fun e w' => e = .returned (.bool (ps.any q)) ∧ Below w.heap.size w w' := by
  have HI := hide (IxO B cap ps q w hR hz HC)
  have hq := oI_any ps q
  clear HC hR hz
  generalize oI (ps.findIdx? q) = r at *
  generalize ps.any q = t at *
  go_enter Tryz.func30, Tryz.ntmps30
  go_wp2_with fail
  refine (unhide HI).mono ?_
  rintro e X5 ⟨rfl, hb5⟩
  have HB := hide hb5
  clear hb5
  go_wp2
  go_ret
  exact ⟨by simp [← hq], unhide HB⟩
