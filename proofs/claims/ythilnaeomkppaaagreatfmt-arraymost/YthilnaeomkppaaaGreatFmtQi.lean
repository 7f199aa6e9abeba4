import Derived.Test.YthilnaeomkppaaaGreatFmtQh
set_option linter.all false
namespace Go.Proofs.YthilnaeomkppaaaGreatFmt
section
open Go.RowKit FM
attribute [local go_sem] bits_run run_store_floatD
def VV.zero : VV := ⟨0, false, 0, ByteArray.empty, 0⟩
def VV.made (v : VV) : VV := if v.good then v else VV.zero
/-- Five cells of a block that may be written. -/
structure Five (w : World) (B : Nat) (c0 c1 c2 c3 c4 : Value) : Prop where
  h0 : w.cell? ⟨B, 0, none⟩ = some c0
  h1 : w.cell? ⟨B, 1, none⟩ = some c1
  h2 : w.cell? ⟨B, 2, none⟩ = some c2
  h3 : w.cell? ⟨B, 3, none⟩ = some c3
  h4 : w.cell? ⟨B, 4, none⟩ = some c4
  fz : ∀ j, w.frozen? ⟨B, j, none⟩ = false
  lt : B < w.heap.size
theorem five_new (w : World) (B : Nat) (c0 c1 c2 c3 c4 : Value) (t : TypeId) (hB : B = w.heap.size) : Five (w.alloc (Obj.cells #[c0, c1, c2, c3, c4] t)) B c0 c1 c2 c3 c4 := by
  subst hB
  refine ⟨?_, ?_, ?_, ?_, ?_, fun j => ?_, ?_⟩ <;> simp [go_sem]
theorem five_alloc {w : World} {B : Nat} {c0 c1 c2 c3 c4 : Value} (h : Five w B c0 c1 c2 c3 c4) (o : Obj) : Five (w.alloc o) B c0 c1 c2 c3 c4 := by
  have hb : Below w.heap.size w (w.alloc o) := (Below.refl _ _).alloc (Nat.le_refl _) _
  exact ⟨(hb.cell h.lt).trans h.h0, (hb.cell h.lt).trans h.h1, (hb.cell h.lt).trans h.h2, (hb.cell h.lt).trans h.h3, (hb.cell h.lt).trans h.h4, fun j => (hb.frozen h.lt).trans (h.fz j), Nat.lt_of_lt_of_le h.lt hb.size⟩
theorem five_below {w w' : World} {B : Nat} {c0 c1 c2 c3 c4 : Value} (h : Five w B c0 c1 c2 c3 c4) (hb : Below w.heap.size w w') : Five w' B c0 c1 c2 c3 c4 :=
  ⟨(hb.cell h.lt).trans h.h0, (hb.cell h.lt).trans h.h1, (hb.cell h.lt).trans h.h2, (hb.cell h.lt).trans h.h3, (hb.cell h.lt).trans h.h4, fun j => (hb.frozen h.lt).trans (h.fz j), Nat.lt_of_lt_of_le h.lt hb.size⟩
theorem set5 {w W : World} {B : Nat} {v0 v1 v2 v3 v4 : Value} (h : Below w.heap.size w W) (hB : w.heap.size ≤ B) :
    Below w.heap.size w (((((W.setCell ⟨B, 0, none⟩ v0).setCell ⟨B, 1, none⟩ v1).setCell ⟨B, 2, none⟩ v2).setCell ⟨B, 3, none⟩ v3).setCell ⟨B, 4, none⟩ v4) :=
  ((((h.setCell hB _).setCell hB _).setCell hB _).setCell hB _).setCell hB _

def errB (b : Bool) : Int := if b then 0 else 5
theorem check_any (v : VV) (w : World) (hT : Lib.Utf8Tabs 4 5 w) : Calls Tryz.prog 31 #[v.agg] w fun e w' => e = .returned (.int .i64 (errB v.good)) ∧ Below w.heap.size w w' := by
  have HI := hide (inside_any v.k v.b v.x v.s v.i)
  have HT := hide hT
  clear hT
  unfold VV.good
  generalize goodV v.k v.b v.x v.s v.i = g at *
  generalize ifcV ⟨v.k, v.b, v.x, v.s, v.i⟩ = f at *
  obtain ⟨k, b, x, s, i⟩ := v
  unfold VV.agg at *
  dsimp only at *
  cases g
  all_goals
    go_enter Tryz.func31, Tryz.ntmps31
    go_wp2_with fail
    refine (unhide HI _ (tabs_below (unhide HT) ((Below.refl _ _).alloc (Nat.le_refl _) _))).mono ?_
    rintro e w1 ⟨rfl, hb⟩
    go_wp2
    go_ret
    exact ⟨rfl, ((Below.refl _ _).alloc (Nat.le_refl _) _).trans (hb.mono (by simp))⟩
