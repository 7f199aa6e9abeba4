import Derived.Test.YteohiamifoonkaaDoorVb
import Derived.Deep.RegionHeld3
namespace Go.Proofs.YteohiamifoonkaaDoor
open Go Go.Proofs Go.RowKit
set_option linter.unusedSimpArgs false
set_option linter.unusedVariables false
/-- A descriptor of the program, field by field. -/
structure DD where
  v : VV
  g : VV
  s : VV
  w : Int
  e : Int
  c : Int
def DD.agg (d : DD) : Value := .agg #[.int .i64 d.v.k, .bool d.v.b, .float .f64 d.v.x, .string d.v.s, .int .i64 d.v.i, .int .i64 d.g.k, .bool d.g.b, .float .f64 d.g.x, .string d.g.s, .int .i64 d.g.i, .int .i64 d.s.k, .bool d.s.b, .float .f64 d.s.x, .string d.s.s, .int .i64 d.s.i, .int .i64 d.w, .int .i64 d.e, .int .i64 d.c]
def DD.obj (d : DD) : Obj := Obj.cells #[.int .i64 d.v.k, .bool d.v.b, .float .f64 d.v.x, .string d.v.s, .int .i64 d.v.i, .int .i64 d.g.k, .bool d.g.b, .float .f64 d.g.x, .string d.g.s, .int .i64 d.g.i, .int .i64 d.s.k, .bool d.s.b, .float .f64 d.s.x, .string d.s.s, .int .i64 d.s.i, .int .i64 d.w, .int .i64 d.e, .int .i64 d.c] 32
def VV.obj (d : VV) : Obj := Obj.cells #[.int .i64 d.k, .bool d.b, .float .f64 d.x, .string d.s, .int .i64 d.i] 27
def zeroV : VV := ⟨0, false, 0, ⟨#[]⟩, 0⟩
def zeroD : DD := ⟨zeroV, zeroV, zeroV, 0, 0, 0⟩
/-- A descriptor lies in block B. -/
def Lies (W : World) (B : Nat) (d : DD) : Prop := (∀ j, W.frozen? ⟨B, j, none⟩ = false) ∧ W.cell? ⟨B, 0, none⟩ = some (.int .i64 d.v.k) ∧ W.cell? ⟨B, 1, none⟩ = some (.bool d.v.b) ∧ W.cell? ⟨B, 2, none⟩ = some (.float .f64 d.v.x) ∧ W.cell? ⟨B, 3, none⟩ = some (.string d.v.s) ∧ W.cell? ⟨B, 4, none⟩ = some (.int .i64 d.v.i) ∧ W.cell? ⟨B, 5, none⟩ = some (.int .i64 d.g.k) ∧ W.cell? ⟨B, 6, none⟩ = some (.bool d.g.b) ∧ W.cell? ⟨B, 7, none⟩ = some (.float .f64 d.g.x) ∧ W.cell? ⟨B, 8, none⟩ = some (.string d.g.s) ∧ W.cell? ⟨B, 9, none⟩ = some (.int .i64 d.g.i) ∧ W.cell? ⟨B, 10, none⟩ = some (.int .i64 d.s.k) ∧ W.cell? ⟨B, 11, none⟩ = some (.bool d.s.b) ∧ W.cell? ⟨B, 12, none⟩ = some (.float .f64 d.s.x) ∧ W.cell? ⟨B, 13, none⟩ = some (.string d.s.s) ∧ W.cell? ⟨B, 14, none⟩ = some (.int .i64 d.s.i) ∧ W.cell? ⟨B, 15, none⟩ = some (.int .i64 d.w) ∧ W.cell? ⟨B, 16, none⟩ = some (.int .i64 d.e) ∧ W.cell? ⟨B, 17, none⟩ = some (.int .i64 d.c)
/-- A value lies in block B. -/
def VLies (W : World) (B : Nat) (d : VV) : Prop := (∀ j, W.frozen? ⟨B, j, none⟩ = false) ∧ W.cell? ⟨B, 0, none⟩ = some (.int .i64 d.k) ∧ W.cell? ⟨B, 1, none⟩ = some (.bool d.b) ∧ W.cell? ⟨B, 2, none⟩ = some (.float .f64 d.x) ∧ W.cell? ⟨B, 3, none⟩ = some (.string d.s) ∧ W.cell? ⟨B, 4, none⟩ = some (.int .i64 d.i)
theorem Lies.new (w : World) (B : Nat) (hB : B = w.heap.size) (d : DD) : Lies (w.alloc d.obj) B d := by
  subst hB
  unfold Lies DD.obj
  simp [go_sem]
theorem Lies.on {W W1 : World} {B : Nat} {d : DD} (h : Lies W B d) (hB : B < W.heap.size) (hb : Below W.heap.size W W1) : Lies W1 B d := by
  unfold Lies at *
  simp only [hb.cell (p := ⟨B, _, none⟩) hB, hb.frozen (p := ⟨B, _, none⟩) hB]
  exact h
theorem VLies.new (w : World) (B : Nat) (hB : B = w.heap.size) (d : VV) : VLies (w.alloc d.obj) B d := by
  subst hB
  unfold VLies VV.obj
  simp [go_sem]
theorem VLies.on {W W1 : World} {B : Nat} {d : VV} (h : VLies W B d) (hB : B < W.heap.size) (hb : Below W.heap.size W W1) : VLies W1 B d := by
  unfold VLies at *
  simp only [hb.cell (p := ⟨B, _, none⟩) hB, hb.frozen (p := ⟨B, _, none⟩) hB]
  exact h
/-- What a function has boxed. -/
inductive PB where
  | D (d : DD)
  | V (v : VV)
def PB.obj : PB → Obj
  | .D d => d.obj
  | .V v => v.obj
def PB.lies (W : World) (B : Nat) : PB → Prop
  | .D d => Lies W B d
  | .V v => VLies W B v
theorem PB.new (w : World) (B : Nat) (hB : B = w.heap.size) (p : PB) : p.lies (w.alloc p.obj) B := by
  cases p
  · exact Lies.new w B hB _
  · exact VLies.new w B hB _
theorem PB.on {W W1 : World} {B : Nat} {p : PB} (h : p.lies W B) (hB : B < W.heap.size) (hb : Below W.heap.size W W1) : p.lies W1 B := by
  cases p
  · exact Lies.on h hB hb
  · exact VLies.on h hB hb
theorem PB.drew {W : World} {B : Nat} {p : PB} (h : p.lies W B) : p.lies W.drew B := by
  cases p
  · exact h
  · exact h
def HoldsP (W : World) (B : Nat) : List PB → Prop
  | [] => True
  | p :: r => p.lies W B ∧ HoldsP W (B + 1) r
theorem HoldsP.on {W W1 : World} (hb : Below W.heap.size W W1) : ∀ {l : List PB} {B : Nat}, HoldsP W B l → B + l.length ≤ W.heap.size → HoldsP W1 B l
  | [], _, _, _ => trivial
  | p :: r, B, h, hs => ⟨PB.on h.1 (by simp at hs; omega) hb, HoldsP.on hb h.2 (by simp at hs; omega)⟩
theorem HoldsP.drew {W : World} : ∀ {l : List PB} {B : Nat}, HoldsP W B l → HoldsP W.drew B l
  | [], _, _ => trivial
  | _ :: _, _, h => ⟨PB.drew h.1, h.2.drew⟩
theorem HoldsP.snoc {W : World} {p : PB} : ∀ {l : List PB} {B : Nat}, HoldsP W B l → p.lies W (B + l.length) → HoldsP W B (l ++ [p])
  | [], B, _, h => ⟨by simpa using h, trivial⟩
  | q :: r, B, hl, h => ⟨hl.1, HoldsP.snoc hl.2 (by
      have e : B + 1 + r.length = B + (q :: r).length := by
        simp
        omega
      rw [e]
      exact h)⟩
/-- What a function has boxed lies where it lay, and what was there ahead of it is as it was. -/
structure Lie (w W : World) (l : List PB) : Prop where
  below : Below w.heap.size w W
  size : w.heap.size + l.length ≤ W.heap.size
  holds : HoldsP W w.heap.size l
theorem Lie.nil (w : World) : Lie w w [] := ⟨Below.refl _ _, by simp, trivial⟩
theorem Lie.push {w W : World} {l : List PB} (h : Lie w W l) (hs : W.heap.size = w.heap.size + l.length) (p : PB) : Lie w (W.alloc p.obj) (l ++ [p]) := by
  refine ⟨h.below.alloc (by omega) _, by simp; omega, HoldsP.snoc (h.holds.on ((Below.refl _ _).alloc (Nat.le_refl _) _) (by omega)) (PB.new W _ (by omega) p)⟩
theorem Lie.on {w W W1 : World} {l : List PB} (h : Lie w W l) (hb : Below W.heap.size W W1) : Lie w W1 l :=
  ⟨h.below.trans (hb.mono h.below.size), Nat.le_trans h.size hb.size, h.holds.on hb h.size⟩
theorem Lie.drew {w W : World} {l : List PB} (h : Lie w W l) : Lie w W.drew l := ⟨h.below.drew, h.size, h.holds.drew⟩
theorem Lie.new1 (w : World) (p : PB) : Lie w (w.alloc p.obj) [p] := (Lie.nil w).push (by simp) p
theorem Lie.new2 (w : World) (p q : PB) : Lie w ((w.alloc p.obj).alloc q.obj) [p, q] := (Lie.new1 w p).push (by simp) q
theorem Lie.new3 (w : World) (p q r : PB) : Lie w (((w.alloc p.obj).alloc q.obj).alloc r.obj) [p, q, r] := (Lie.new2 w p q).push (by simp) r
theorem Lie.one {w W : World} {p : PB} {l : List PB} (h : Lie w W (p :: l)) : p.lies W w.heap.size := h.holds.1
theorem Lie.two {w W : World} {p q : PB} {l : List PB} (h : Lie w W (p :: q :: l)) : q.lies W (w.heap.size + 1) := h.holds.2.1
theorem Lie.three {w W : World} {p q r : PB} {l : List PB} (h : Lie w W (p :: q :: r :: l)) : r.lies W (w.heap.size + 2) := h.holds.2.2.1
end Go.Proofs.YteohiamifoonkaaDoor
