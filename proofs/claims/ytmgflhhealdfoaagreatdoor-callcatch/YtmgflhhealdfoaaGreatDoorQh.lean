import Derived.Test.YtmgflhhealdfoaaGreatDoorQg
set_option linter.all false
namespace Go.Proofs.YtmgflhhealdfoaaGreatDoor
section
open Go Go.Proofs Go.RowKit
/-- A descriptor of the program, field by field. -/
structure DD where
  v : VV
  g : VV
  s : VV
  w : Int
  e : Int
  c : Int
def DD.agg (d : DD) : Value := .agg #[.int .i64 d.v.k, .bool d.v.b, .float .f64 d.v.x, .string d.v.s, .int .i64 d.v.i, .int .i64 d.g.k, .bool d.g.b, .float .f64 d.g.x, .string d.g.s, .int .i64 d.g.i, .int .i64 d.s.k, .bool d.s.b, .float .f64 d.s.x, .string d.s.s, .int .i64 d.s.i, .int .i64 d.w, .int .i64 d.e, .int .i64 d.c]
def DD.obj (d : DD) : Obj := Obj.cells #[.int .i64 d.v.k, .bool d.v.b, .float .f64 d.v.x, .string d.v.s, .int .i64 d.v.i, .int .i64 d.g.k, .bool d.g.b, .float .f64 d.g.x, .string d.g.s, .int .i64 d.g.i, .int .i64 d.s.k, .bool d.s.b, .float .f64 d.s.x, .string d.s.s, .int .i64 d.s.i, .int .i64 d.w, .int .i64 d.e, .int .i64 d.c] 38
def VV.obj (d : VV) : Obj := Obj.cells #[.int .i64 d.k, .bool d.b, .float .f64 d.x, .string d.s, .int .i64 d.i] 24
def zeroV : VV := ⟨0, false, 0, ⟨#[]⟩, 0⟩
def zeroD : DD := ⟨zeroV, zeroV, zeroV, 0, 0, 0⟩
/-- A descriptor lies in block B. -/
def Lies (W : World) (B : Nat) (d : DD) : Prop := (∀ j, W.frozen? ⟨B, j, none⟩ = false) ∧ W.cell? ⟨B, 0, none⟩ = some (.int .i64 d.v.k) ∧ W.cell? ⟨B, 1, none⟩ = some (.bool d.v.b) ∧ W.cell? ⟨B, 2, none⟩ = some (.float .f64 d.v.x) ∧ W.cell? ⟨B, 3, none⟩ = some (.string d.v.s) ∧ W.cell? ⟨B, 4, none⟩ = some (.int .i64 d.v.i) ∧ W.cell? ⟨B, 5, none⟩ = some (.int .i64 d.g.k) ∧ W.cell? ⟨B, 6, none⟩ = some (.bool d.g.b) ∧ W.cell? ⟨B, 7, none⟩ = some (.float .f64 d.g.x) ∧ W.cell? ⟨B, 8, none⟩ = some (.string d.g.s) ∧ W.cell? ⟨B, 9, none⟩ = some (.int .i64 d.g.i) ∧ W.cell? ⟨B, 10, none⟩ = some (.int .i64 d.s.k) ∧ W.cell? ⟨B, 11, none⟩ = some (.bool d.s.b) ∧ W.cell? ⟨B, 12, none⟩ = some (.float .f64 d.s.x) ∧ W.cell? ⟨B, 13, none⟩ = some (.string d.s.s) ∧ W.cell? ⟨B, 14, none⟩ = some (.int .i64 d.s.i) ∧ W.cell? ⟨B, 15, none⟩ = some (.int .i64 d.w) ∧ W.cell? ⟨B, 16, none⟩ = some (.int .i64 d.e) ∧ W.cell? ⟨B, 17, none⟩ = some (.int .i64 d.c)
/-- A value lies in block B. -/
def VLies (W : World) (B : Nat) (d : VV) : Prop := (∀ j, W.frozen? ⟨B, j, none⟩ = false) ∧ W.cell? ⟨B, 0, none⟩ = some (.int .i64 d.k) ∧ W.cell? ⟨B, 1, none⟩ = some (.bool d.b) ∧ W.cell? ⟨B, 2, none⟩ = some (.float .f64 d.x) ∧ W.cell? ⟨B, 3, none⟩ = some (.string d.s) ∧ W.cell? ⟨B, 4, none⟩ = some (.int .i64 d.i)
theorem Lies.new (w : World) (B : Nat) (hB : B = w.heap.size) (d : DD) : Lies (w.alloc d.obj) B d := by
  subst hB
  unfold Lies DD.obj
  simp [go_sem]
theorem Lies.on {W W1 : World} {B : Nat} {d : DD} (h : Lies W B d) (hB : B < W.heap.size) (hb : Below W.heap.size W W1) : Lies W1 B d := by
  unfold Lies at *
  simp only [hb.cell (p := ⟨B, _, none⟩) hB, hb.frozen (p := ⟨B, _, none⟩) hB]
  exact h
theorem VLies.new (w : World) (B : Nat) (hB : B = w.heap.size) (d : VV) : VLies (w.alloc d.obj) B d := by
  subst hB
  unfold VLies VV.obj
  simp [go_sem]
theorem VLies.on {W W1 : World} {B : Nat} {d : VV} (h : VLies W B d) (hB : B < W.heap.size) (hb : Below W.heap.size W W1) : VLies W1 B d := by
  unfold VLies at *
  simp only [hb.cell (p := ⟨B, _, none⟩) hB, hb.frozen (p := ⟨B, _, none⟩) hB]
  exact h
/-- What a function has boxed. -/
inductive PB where
  | D (d : DD)
  | V (v : VV)
def PB.obj : PB → Obj
  | .D d => d.obj
  | .V v => v.obj
def PB.lies (W : World) (B : Nat) : PB → Prop
  | .D d => Lies W B d
  | .V v => VLies W B v
theorem PB.new (w : World) (B : Nat) (hB : B = w.heap.size) (p : PB) : p.lies (w.alloc p.obj) B := by
  cases p
  · exact Lies.new w B hB _
  · exact VLies.new w B hB _
theorem PB.on {W W1 : World} {B : Nat} {p : PB} (h : p.lies W B) (hB : B < W.heap.size) (hb : Below W.heap.size W W1) : p.lies W1 B := by
  cases p
  · exact Lies.on h hB hb
  · exact VLies.on h hB hb
theorem PB.drew {W : World} {B : Nat} {p : PB} (h : p.lies W B) : p.lies W.drew B := by
  cases p
  · exact h
  · exact h
def HoldsP (W : World) (B : Nat) : List PB → Prop
  | [] => True
  | p :: r => p.lies W B ∧ HoldsP W (B + 1) r
theorem HoldsP.on {W W1 : World} (hb : Below W.heap.size W W1) : ∀ {l : List PB} {B : Nat}, HoldsP W B l → B + l.length ≤ W.heap.size → HoldsP W1 B l
  | [], _, _, _ => trivial
  | p :: r, B, h, hs => ⟨PB.on h.1 (by simp at hs; omega) hb, HoldsP.on hb h.2 (by simp at hs; omega)⟩
theorem HoldsP.drew {W : World} : ∀ {l : List PB} {B : Nat}, HoldsP W B l → HoldsP W.drew B l
  | [], _, _ => trivial
  | _ :: _, _, h => ⟨PB.drew h.1, h.2.drew⟩
theorem HoldsP.snoc {W : World} {p : PB} : ∀ {l : List PB} {B : Nat}, HoldsP W B l → p.lies W (B + l.length) → HoldsP W B (l ++ [p])
  | [], B, _, h => ⟨by simpa using h, trivial⟩
  | q :: r, B, hl, h => ⟨hl.1, HoldsP.snoc hl.2 (by
      have e : B + 1 + r.length = B + (q :: r).length := by
        simp
        omega
      rw [e]
      exact h)⟩
/-- What a function has boxed lies where it lay, and what was there ahead of it is as it was. -/
structure Lie (w W : World) (l : List PB) : Prop where
  below : Below w.heap.size w W
  size : w.heap.size + l.length ≤ W.heap.size
  holds : HoldsP W w.heap.size l
theorem Lie.nil (w : World) : Lie w w [] := ⟨Below.refl _ _, by simp, trivial⟩
theorem Lie.push {w W : World} {l : List PB} (h : Lie w W l) (hs : W.heap.size = w.heap.size + l.length) (p : PB) : Lie w (W.alloc p.obj) (l ++ [p]) := by
  refine ⟨h.below.alloc (by omega) _, by simp; omega, HoldsP.snoc (h.holds.on ((Below.refl _ _).alloc (Nat.le_refl _) _) (by omega)) (PB.new W _ (by omega) p)⟩
theorem Lie.on {w W W1 : World} {l : List PB} (h : Lie w W l) (hb : Below W.heap.size W W1) : Lie w W1 l :=
  ⟨h.below.trans (hb.mono h.below.size), Nat.le_trans h.size hb.size, h.holds.on hb h.size⟩
theorem Lie.drew {w W : World} {l : List PB} (h : Lie w W l) : Lie w W.drew l := ⟨h.below.drew, h.size, h.holds.drew⟩
theorem Lie.new1 (w : World) (p : PB) : Lie w (w.alloc p.obj) [p] := (Lie.nil w).push (by simp) p
theorem Lie.new2 (w : World) (p q : PB) : Lie w ((w.alloc p.obj).alloc q.obj) [p, q] := (Lie.new1 w p).push (by simp) q
theorem Lie.new3 (w : World) (p q r : PB) : Lie w (((w.alloc p.obj).alloc q.obj).alloc r.obj) [p, q, r] := (Lie.new2 w p q).push (by simp) r
theorem Lie.one {w W : World} {p : PB} {l : List PB} (h : Lie w W (p :: l)) : p.lies W w.heap.size := h.holds.1
theorem Lie.two {w W : World} {p q : PB} {l : List PB} (h : Lie w W (p :: q :: l)) : q.lies W (w.heap.size + 1) := h.holds.2.1
theorem Lie.three {w W : World} {p q r : PB} {l : List PB} (h : Lie w W (p :: q :: r :: l)) : r.lies W (w.heap.size + 2) := h.holds.2.2.1
end
section
open Go Go.Proofs Go.RowKit FM
theorem run_equalIn_float {P : Program} (d : Nat) (t : TypeId) (a b : Nat) (w : World) (h : P.underlying t = some (.float .f64)) : (Op.equalIn (d + 1) t (.float .f64 a) (.float .f64 b)).run P w = .ok (FloatKind.f64.format.order a b == some .eq) w := by
  simp [Op.equalIn, run_underlying h]
  rfl
section
attribute [local go_sem] bits_run
theorem signbit_any (x : Nat) (hx : x < 2 ^ 64) (w : World) : Calls Tryz.prog 97 #[.float .f64 x] w fun e w' => e = .returned (.bool (decide (2 ^ 63 ≤ x))) ∧ w' = w := by
  have h : (wrap64 (x : Int) < 0) = (2 ^ 63 ≤ x) := by
    unfold wrap64
    rw [eq_iff_iff]
    omega
  go_enter Tryz.func97, Tryz.ntmps97
  go_wp2
  go_ret
  exact ⟨by simp, rfl⟩
end
def thV (v : VV) : Bool := !(v.k == 0 && !v.b && v.x == 0 && v.s.toList.isEmpty && v.i == 0)
attribute [local go_sem] run_equalIn_float
set_option maxHeartbeats 1000000 in
set_option maxRecDepth 100000 in
theorem there_any (v : VV) (hx : v.x < 2 ^ 64) (w : World) : Calls Tryz.prog 90 #[v.agg] w fun e w' => e = .returned (.bool (thV v)) ∧ Below w.heap.size w w' := by
  have hz := zero_order v.x hx
  have HS := hide (signbit_any v.x hx)
  obtain ⟨k, b, x, s, i⟩ := v
  unfold VV.agg thV
  dsimp only at *
  by_cases hk : k = 0
  · subst hk
    cases b
    · generalize hq : (FloatKind.f64.format.order x 0 == some .eq) = q at *
      cases q
      · have hx0 : (x == 0) = false := by
          simp at hz
          simp [hz]
        rw [hx0]
        have hq2 : ¬ FloatKind.f64.format.order x 0 = some .eq := by simpa using hq
        clear hz hq HS hx hx0
        go_enter Tryz.func90, Tryz.ntmps90
        go_wp2
        go_ret
        exact ⟨rfl, (Below.refl w.heap.size w).alloc (Nat.le_refl _) _⟩
      · have hx0 : x = 0 ∨ x = 2 ^ 63 := by
          simp at hz
          omega
        have hq2 : FloatKind.f64.format.order x 0 = some .eq := by simpa using hq
        by_cases hs : s.toList.isEmpty = true
        · have hs2 := empty_of hs
          subst hs2
          by_cases hi : i = 0
          · subst hi
            have hr : (!((0 : Int) == 0 && !false && x == 0 && ByteArray.empty.toList.isEmpty && (0 : Int) == 0)) = decide (2 ^ 63 ≤ x) := by
              rw [hs]
              rcases hx0 with rfl | rfl <;> rfl
            rw [hr]
            generalize decide (2 ^ 63 ≤ x) = r at *
            clear hz hq hx hx0 hr hs
            go_enter Tryz.func90, Tryz.ntmps90
            go_wp2_with fail
            refine (unhide HS _).mono ?_
            rintro e w1 ⟨rfl, rfl⟩
            go_wp2
            go_ret
            exact ⟨rfl, (Below.refl w.heap.size w).alloc (Nat.le_refl _) _⟩
          · have hi2 : (i == 0) = false := by simp [hi]
            rw [hi2, Bool.and_false]
            clear hz hq hx hx0 hs HS
            go_enter Tryz.func90, Tryz.ntmps90
            go_wp2
            go_ret
            exact ⟨rfl, (Below.refl w.heap.size w).alloc (Nat.le_refl _) _⟩
        · have hs1 : s.toList.isEmpty = false := by simpa using hs
          have hs2 : ¬ s.toList = [] := by simpa using hs1
          rw [hs1, Bool.and_false, Bool.false_and]
          clear hz hq hx hx0 hs HS hs1
          go_enter Tryz.func90, Tryz.ntmps90
          go_wp2
          go_ret
          exact ⟨rfl, (Below.refl w.heap.size w).alloc (Nat.le_refl _) _⟩
    · clear hz HS hx
      go_enter Tryz.func90, Tryz.ntmps90
      go_wp2
      go_ret
      exact ⟨rfl, (Below.refl w.heap.size w).alloc (Nat.le_refl _) _⟩
  · clear hz HS hx
    have hk2 : (k == 0) = false := by simp [hk]
    rw [hk2]
    go_enter Tryz.func90, Tryz.ntmps90
    go_wp2
    go_ret
    exact ⟨rfl, (Below.refl w.heap.size w).alloc (Nat.le_refl _) _⟩
def shapeV (d : DD) : Int := if (thV d.v || d.w != 0) && (thV d.g || thV d.s) then 0 else if thV d.v || d.w != 0 then 2 else if thV d.g || thV d.s then 3 else 1
def triV (t : Int) : Bool := t == 0 || t == 1 || t == 2
theorem said_any (t : Int) (w : World) : Calls Tryz.prog 93 #[.int .i64 t] w fun e w' => e = .returned (.bool (t != 0)) ∧ w' = w := by
  go_enter Tryz.func93, Tryz.ntmps93
  go_wp2
  go_ret
  exact ⟨rfl, rfl⟩
theorem oneOfThree_any (t : Int) (w : World) : Calls Tryz.prog 92 #[.int .i64 t] w fun e w' => e = .returned (.bool (triV t)) ∧ w' = w := by
  unfold triV
  by_cases h0 : t = 0
  · subst h0
    go_enter Tryz.func92, Tryz.ntmps92
    go_wp2
    go_ret
    exact ⟨rfl, rfl⟩
  · have h0' : (t == 0) = false := by simp [h0]
    by_cases h1 : t = 1
    · subst h1
      go_enter Tryz.func92, Tryz.ntmps92
      go_wp2
      go_ret
      exact ⟨rfl, rfl⟩
    · have h1' : (t == 1) = false := by simp [h1]
      rw [h0', h1']
      go_enter Tryz.func92, Tryz.ntmps92
      go_wp2
      go_ret
      exact ⟨rfl, rfl⟩
/-- The floats of a descriptor are floats. -/
def FD (d : DD) : Prop := d.v.x < 2 ^ 64 ∧ d.g.x < 2 ^ 64 ∧ d.s.x < 2 ^ 64
theorem triOr_any (t a : Int) (w : World) : Calls Tryz.prog 144 #[.int .i64 t, .int .i64 a] w fun e w' => e = .returned (.int .i64 (if t != 0 then t else a)) ∧ w' = w := by
  by_cases h : t = 0
  · subst h
    go_enter Tryz.func144, Tryz.ntmps144
    go_wp2_with (go_at_call 93; refine (said_any _ _).mono ?_; rintro _ _ ⟨rfl, rfl⟩)
    go_ret
    exact ⟨rfl, rfl⟩
  · have h' : (t != 0) = true := by simp [h]
    rw [h', if_pos rfl]
    go_enter Tryz.func144, Tryz.ntmps144
    go_wp2_with (go_at_call 93; refine (said_any _ _).mono ?_; rintro _ _ ⟨rfl, rfl⟩)
    go_ret
    exact ⟨rfl, rfl⟩
section
attribute [local go_sem] quo_pos quo_neg
end
