import Derived.Test.YthilnaeomkppaaaGreatFmtQt
set_option linter.all false
namespace Go.Proofs.YthilnaeomkppaaaGreatFmt
section
open Go Go.Proofs Go.RowKit
/-- The number of an array index. -/
def ixOf (l : List Nat) : Option Nat := dgV 4294967294 l
theorem ixOf_le (l : List Nat) (m : Nat) (h : ixOf l = some m) : m ≤ 4294967294 := dgV_le _ _ _ h
set_option maxRecDepth 100000 in
theorem index34 (s : ByteArray) (hs : s.size < 4611686018427387904) (w : World) : Calls Tryz.prog 127 #[.string s] w fun e w' => e = .returned (.tuple #[.int .u32 ((ixOf (nums s)).getD 0 : Nat), .bool (ixOf (nums s)).isSome]) ∧ w' = w := by
  have HC := hide (upTo49 s 4294967294 hs (by omega) w)
  have z1 : IntKind.u32.wrap ((ixOf (nums s)).getD 0 : Nat) = ((ixOf (nums s)).getD 0 : Nat) := by
    have : (ixOf (nums s)).getD 0 ≤ 4294967294 := by
      cases h : ixOf (nums s) with
      | none => simp
      | some m => exact ixOf_le _ _ h
    simp [IntKind.wrap, IntKind.bits, IntKind.signed]; omega
  change Hid (Calls Tryz.prog 131 #[.int .i64 4294967294, .string s] w fun e w' => e = .returned (.tuple #[.int .i64 ((ixOf (nums s)).getD 0 : Nat), .bool (ixOf (nums s)).isSome]) ∧ w' = w) at HC
  generalize (ixOf (nums s)).getD 0 = m at *
  generalize (ixOf (nums s)).isSome = b at *
  go_enter Tryz.func127, Tryz.ntmps127
  go_wp2_with fail
  refine (unhide HC).mono ?_
  rintro e w' ⟨rfl, rfl⟩
  go_wp2
  go_ret2
  exact ⟨rfl, rfl⟩
theorem below_alloc1 (w : World) (o : Obj) : Below w.heap.size w (w.alloc o) := (Below.refl _ _).alloc (Nat.le_refl _) _
def keyV (s : ByteArray) (n : Int) : Value := .agg #[.string s, .int .i64 n]
def kdOf (s : ByteArray) (n : Int) : Int := if n = 0 then (if (ixOf (nums s)).isSome then 0 else 1) else 2
def knOf (s : ByteArray) (n : Int) : Nat := if n = 0 then ((ixOf (nums s)).getD 0) else 0
set_option maxRecDepth 100000 in
theorem kindOf22 (s : ByteArray) (n : Int) (hs : s.size < 4611686018427387904) (w : World) : Calls Tryz.prog 199 #[keyV s n] w fun e w' => e = .returned (.tuple #[.int .i64 (kdOf s n), .int .u32 (knOf s n : Nat)]) ∧ Below w.heap.size w w' := by
  have HC := hide (index34 s hs)
  unfold keyV
  by_cases hn : n = 0
  · subst hn
    have e1 : kdOf s 0 = if (ixOf (nums s)).isSome then 0 else 1 := by unfold kdOf; rw [if_pos rfl]
    have e2 : knOf s 0 = (ixOf (nums s)).getD 0 := by unfold knOf; rw [if_pos rfl]
    rw [e1, e2]
    clear e1 e2
    generalize ixOf (nums s) = o at *
    go_enter Tryz.func199, Tryz.ntmps199
    go_wp2_with fail
    refine (unhide HC _).mono ?_
    rintro e w' ⟨rfl, rfl⟩
    cases o with
    | none =>
      go_wp2
      go_ret2
      exact ⟨rfl, below_alloc1 _ _⟩
    | some m =>
      go_wp2
      go_ret2
      exact ⟨rfl, below_alloc1 _ _⟩
  · have e1 : kdOf s n = 2 := by unfold kdOf; rw [if_neg hn]
    have e2 : knOf s n = 0 := by unfold knOf; rw [if_neg hn]
    rw [e1, e2]
    go_enter Tryz.func199, Tryz.ntmps199
    go_wp2
    go_ret2
    exact ⟨rfl, below_alloc1 _ _⟩
theorem run_store_float (P : Program) (w : World) (a : Addr) (m : Mode) (k : FloatKind) (x : Nat) : (store a (.float k x) m).run P w = stored P w a (.float k x) m := run_store P w a _ m rfl
attribute [local go_sem] bits_run run_store_float
/-- The value that a key is. -/
def kVal (s : ByteArray) (n : Int) : VV := if n = 0 then ⟨5, false, 0, s, 0⟩ else ⟨6, false, 0, s, n⟩
theorem kbelow2 (w : World) (o1 o2 : Obj) : Below w.heap.size w ((w.alloc o1).alloc o2) := ((Below.refl _ _).alloc (Nat.le_refl _) _).alloc (by simp) _
set_option maxRecDepth 100000 in
theorem asValue21 (s : ByteArray) (n : Int) (w : World) : Calls Tryz.prog 44 #[keyV s n] w fun e w' => e = .returned (kVal s n).agg ∧ Below w.heap.size w w' := by
  unfold keyV
  by_cases hn : n = 0
  · subst hn
    have e1 : kVal s 0 = ⟨5, false, 0, s, 0⟩ := by unfold kVal; rw [if_pos rfl]
    rw [e1]
    unfold VV.agg
    go_enter Tryz.func44, Tryz.ntmps44
    go_wp2
    simp [bodyPost, results, Tryz.results44, go_sem]
    exact kbelow2 ..
  · have e1 : kVal s n = ⟨6, false, 0, s, n⟩ := by unfold kVal; rw [if_neg hn]
    rw [e1]
    unfold VV.agg
    go_enter Tryz.func44, Tryz.ntmps44
    go_wp2
    simp [bodyPost, results, Tryz.results44, go_sem]
    exact kbelow2 ..
set_option maxRecDepth 100000 in
theorem vcheck20 (v : VV) (w : World) (hT : Lib.Utf8Tabs 4 5 w) : Calls Tryz.prog 31 #[v.agg] w fun e w' => e = .returned (.int .i64 (if v.good then 0 else 5)) ∧ Below w.heap.size w w' := by
  have HI := hide (fun w (hT : Lib.Utf8Tabs 4 5 w) => inside_any v.k v.b v.x v.s v.i w hT)
  have HT := hide hT
  unfold VV.agg VV.good
  generalize goodV v.k v.b v.x v.s v.i = g at *
  clear hT
  go_enter Tryz.func31, Tryz.ntmps31
  go_wp2_with fail
  refine (unhide HI _ (tabs_below (unhide HT) (below_alloc1 _ _))).mono ?_
  rintro e w1 ⟨rfl, hb⟩
  have HB := hide (((below_alloc1 w _).trans (hb.mono (by simp))))
  clear hb
  cases g
  · go_wp2
    go_ret
    exact ⟨rfl, unhide HB⟩
  · go_wp2
    go_ret
    exact ⟨rfl, unhide HB⟩
set_option maxRecDepth 100000 in
theorem check12 (s : ByteArray) (n : Int) (w : World) (hT : Lib.Utf8Tabs 4 5 w) : Calls Tryz.prog 26 #[keyV s n] w fun e w' => e = .returned (.int .i64 (if (kVal s n).good then 0 else 5)) ∧ Below w.heap.size w w' := by
  have HA := hide (fun w => asValue21 s n w)
  have HI := hide (fun w (hT : Lib.Utf8Tabs 4 5 w) => vcheck20 (kVal s n) w hT)
  have HT := hide hT
  unfold keyV at *
  generalize (kVal s n).agg = v at *
  generalize (if (kVal s n).good then (0 : Int) else 5) = g at *
  clear hT
  go_enter Tryz.func26, Tryz.ntmps26
  go_wp2_with fail
  refine (unhide HA _).mono ?_
  rintro e w1 ⟨rfl, hb⟩
  have HB := hide (((below_alloc1 w _).trans (hb.mono (by simp))))
  clear hb
  go_wp2_with fail
  refine (unhide HI _ (tabs_below (unhide HT) (unhide HB))).mono ?_
  rintro e w2 ⟨rfl, hb2⟩
  have HB2 := hide ((unhide HB).trans (hb2.mono (unhide HB).size))
  clear hb2
  go_wp2
  go_ret
  exact ⟨rfl, unhide HB2⟩
theorem two2 {w w1 : World} {c0 c1 d0 d1 : Value} {t u : TypeId} (hb : Below ((w.alloc (Obj.cells #[c0, c1] t)).alloc (Obj.cells #[d0, d1] u)).drew.heap.size ((w.alloc (Obj.cells #[c0, c1] t)).alloc (Obj.cells #[d0, d1] u)).drew w1) :
    w1.cell? ⟨w.heap.size, 1, none⟩ = some c1 ∧ w1.cell? ⟨w.heap.size + 1, 0, none⟩ = some d0 ∧ w1.cell? ⟨w.heap.size + 1, 1, none⟩ = some d1 ∧ w1.frozen? ⟨w.heap.size + 1, 0, none⟩ = false ∧ w1.frozen? ⟨w.heap.size + 1, 1, none⟩ = false ∧
    Below w.heap.size w w1 ∧ w1.heap[w.heap.size + 1]? = some (Obj.cells #[d0, d1] u) := by
  have h1 := hb.cell (p := ⟨w.heap.size, 1, none⟩) (by simp; omega)
  have h2 := hb.cell (p := ⟨w.heap.size + 1, 0, none⟩) (by simp)
  have h3 := hb.cell (p := ⟨w.heap.size + 1, 1, none⟩) (by simp)
  have h4 := hb.frozen (p := ⟨w.heap.size + 1, 0, none⟩) (by simp)
  have h5 := hb.frozen (p := ⟨w.heap.size + 1, 1, none⟩) (by simp)
  have h6 := hb.block (w.heap.size + 1) (by simp)
  simp [go_sem] at h1 h2 h3 h4 h5
  refine ⟨h1, h2, h3, h4, h5, ((kbelow2 w _ _).drew).trans (hb.mono (by simp; omega)), ?_⟩
  rw [h6]
  have e := heap_alloc_new (w.alloc (Obj.cells #[c0, c1] t)) (Obj.cells #[d0, d1] u)
  rw [show (w.alloc (Obj.cells #[c0, c1] t)).heap.size = w.heap.size + 1 by simp] at e
  exact e
set_option maxRecDepth 100000 in
theorem anew30 (s : ByteArray) (n : Int) (h : s.size ≤ 1048576) (w : World) : Calls Tryz.prog 200 #[keyV s n] w fun e w' => e = .returned (keyV s n) ∧ Below w.heap.size w w' := by
  have HC := hide (fun w => clone_any s w h)
  unfold keyV
  go_enter Tryz.func200, Tryz.ntmps200
  go_wp2_with fail
  go_region_with (go_at_call 23; refine (unhide HC _).mono ?_; rintro e w1 ⟨rfl, hb⟩; obtain ⟨c1, d0, d1, f0, f1, hB, hO⟩ := two2 hb; have HB := hide hB; have HO := hide hO; clear hb hB hO)
  all_goals
    have g0 : ((w1.setCell ⟨w.heap.size + 1, 0, none⟩ (.string s)).setCell ⟨w.heap.size + 1, 1, none⟩ (.int .i64 n)).cell? ⟨w.heap.size + 1, 0, none⟩ = some (.string s) := by
      simp [World.cell?, World.setCell, Array.getElem?_modify, unhide HO]
    have g1 : ((w1.setCell ⟨w.heap.size + 1, 0, none⟩ (.string s)).setCell ⟨w.heap.size + 1, 1, none⟩ (.int .i64 n)).cell? ⟨w.heap.size + 1, 1, none⟩ = some (.int .i64 n) := by
      simp [World.cell?, World.setCell, Array.getElem?_modify, unhide HO]
    have HG := hide (((unhide HB).setCell (p := ⟨w.heap.size + 1, 0, none⟩) (by simp) (.string s)).setCell (p := ⟨w.heap.size + 1, 1, none⟩) (by simp) (.int .i64 n))
    generalize (w1.setCell ⟨w.heap.size + 1, 0, none⟩ (.string s)).setCell ⟨w.heap.size + 1, 1, none⟩ (.int .i64 n) = W at *
    clear HB HO f0 f1 d0 d1 c1 HC
    go_wp2
    simp [bodyPost, results, Tryz.results200, go_sem, g0, g1]
    exact unhide HG
theorem two22 {w w1 : World} {c0 c1 d0 d1 : Value} {t u : TypeId} (hb : Below ((w.alloc (Obj.cells #[c0, c1] t)).alloc (Obj.cells #[d0, d1] u)).heap.size ((w.alloc (Obj.cells #[c0, c1] t)).alloc (Obj.cells #[d0, d1] u)) w1) :
    Below w.heap.size w w1 ∧ w.heap.size + 2 ≤ w1.heap.size ∧ w1.cell? ⟨w.heap.size, 0, none⟩ = some c0 ∧ w1.cell? ⟨w.heap.size, 1, none⟩ = some c1 ∧ w1.cell? ⟨w.heap.size + 1, 0, none⟩ = some d0 ∧ w1.cell? ⟨w.heap.size + 1, 1, none⟩ = some d1 := by
  have h0 := hb.cell (p := ⟨w.heap.size, 0, none⟩) (by simp; omega)
  have h1 := hb.cell (p := ⟨w.heap.size, 1, none⟩) (by simp; omega)
  have h2 := hb.cell (p := ⟨w.heap.size + 1, 0, none⟩) (by simp)
  have h3 := hb.cell (p := ⟨w.heap.size + 1, 1, none⟩) (by simp)
  have h4 := hb.size
  simp [go_sem] at h0 h1 h2 h3 h4
  exact ⟨(kbelow2 w _ _).trans (hb.mono (by simp; omega)), h4, h0, h1, h2, h3⟩
def cpN (a b : Nat) : Int := if a < b then -1 else if b < a then 1 else 0
/-- The order of two right keys. -/
def cmpK (a : ByteArray) (m : Int) (b : ByteArray) (n : Int) : Int :=
  if kdOf a m = kdOf b n then (if kdOf a m = 0 then cpN (knOf a m) (knOf b n) else if kdOf a m = 1 then cmI a b else Lib.compareInt m n) else Lib.compareInt (kdOf a m) (kdOf b n)
theorem good_size {s : ByteArray} {n : Int} (h : (kVal s n).good = true) : s.size ≤ 1048576 := by
  unfold kVal at h
  by_cases hn : n = 0
  · rw [if_pos hn] at h
    rcases hf : fitV s with _ | _
    · simp [VV.good, goodV, inG, hf] at h
    · unfold fitV at hf
      simp at hf
      exact hf.1
  · rw [if_neg hn] at h
    have : s.toList.isEmpty = true := by
      cases he : s.toList.isEmpty
      · simp [VV.good, goodV, inG, strV, he] at h
      · rfl
    rw [empty_of this]
    decide
