import Derived.Test.YtkpfikeggleenaaGreatDoorYm
import Derived.Maps.RangeWalk
namespace Go.Proofs.YtkpfikeggleenaaGreatDoor
open Go Go.Proofs Go.Maps Go.RowKit
set_option linter.unusedSimpArgs false
set_option linter.unusedVariables false
set_option maxHeartbeats 1000000
set_option maxRecDepth 100000 in
theorem bits58 (w : World) : Calls Tryz.prog 70 #[.int .u64 0] w fun e w' => e = .returned (.int .i64 0) ∧ Below w.heap.size w w' := by
  go_enter Tryz.func70, Tryz.ntmps70
  go_wp2
  go_ret
  exact ⟨by kernel_rfl, Below.refl _ _⟩
set_option maxRecDepth 100000 in
theorem bits44 (w : World) : Calls Tryz.prog 54 #[.int .u64 0] w fun e w' => e = .returned (.int .i64 0) ∧ Below w.heap.size w w' := by
  go_enter Tryz.func54, Tryz.ntmps54
  go_wp2_with fail
  refine (bits58 _).mono ?_
  rintro e X ⟨rfl, hb⟩
  have HB := hide hb
  clear hb
  go_wp2
  go_ret
  exact ⟨rfl, unhide HB⟩
set_option maxRecDepth 100000 in
theorem ins49 (A : Option Addr) (c : Nat) (f : Value) (w : World) : Calls Tryz.prog 61 #[.slice A 0 c, .int .i64 0, .int .i64 0, f] w fun e w' => e = .returned (.tuple #[]) ∧ Below w.heap.size w w' := by
  go_enter Tryz.func61, Tryz.ntmps61
  go_wp2_with fail
  go_loopg [8] 1 (fun gm s8 wr => s8 = .int .i64 1 ∧ wr = w)
  case atStart => exact ⟨rfl, rfl⟩
  case round =>
    obtain ⟨rfl, rfl⟩ := hrel
    go_wp2
    go_end0
    exact ⟨rfl, Below.refl _ _⟩
set_option maxRecDepth 100000 in
theorem pdq43 (A : Option Addr) (c : Nat) (f : Value) (w : World) : Calls Tryz.prog 53 #[.slice A 0 c, .int .i64 0, .int .i64 0, .int .i64 0, f] w fun e w' => e = .returned (.tuple #[]) ∧ Below w.heap.size w w' := by
  go_enter Tryz.func53, Tryz.ntmps53
  go_wp2_with fail
  go_loopg [1, 2, 3, 10, 11] 1 (fun gm s1 s2 s3 s10 s11 wr => s1 = .int .i64 0 ∧ s2 = .int .i64 0 ∧ s3 = .int .i64 0 ∧ s10 = .bool true ∧ s11 = .bool true ∧ wr = w)
  case atStart => exact ⟨rfl, rfl, rfl, rfl, rfl, rfl⟩
  case round =>
    obtain ⟨rfl, rfl, rfl, rfl, rfl, rfl⟩ := hrel
    go_wp2_with fail
    refine (ins49 A c f _).mono ?_
    rintro e X ⟨rfl, hb⟩
    have HB := hide hb
    clear hb
    go_wp2
    refine bodyPost_ret (results_none rfl _ _ _) rfl ?_
    exact ⟨rfl, unhide HB⟩
set_option maxRecDepth 100000 in
theorem sort35 (A : Option Addr) (c : Nat) (f : Value) (w : World) : Calls Tryz.prog 41 #[.slice A 0 c, f] w fun e w' => e = .returned (.tuple #[]) ∧ Below w.heap.size w w' := by
  go_enter Tryz.func41, Tryz.ntmps41
  go_wp2_with (first | go_skip | ((with_reducible show wpList _ _ _ _ _ _); first | ((refine rd (by rfl) (ex_lenG 53 9 Tryz.underlying53 rfl rfl) ?_); simp only [Act.put, List.setIfInBounds_toArray, List.set_cons_succ, List.set_cons_zero])))
  refine (bits44 _).mono ?_
  rintro e X ⟨rfl, hb⟩
  have HB := hide hb
  clear hb
  go_wp2_with fail
  refine (pdq43 A c f _).mono ?_
  rintro e X2 ⟨rfl, hb⟩
  have HB2 := hide ((unhide HB).trans (hb.mono (unhide HB).size))
  clear hb
  go_wp2
  go_end0
  exact ⟨rfl, unhide HB2⟩
theorem info9 : (Tryz.prog.info? 9).map (fun i => (i.zero, i.size, i.bytes)) = some (some (.string ⟨#[]⟩), 1, 16) := by kernel_rfl
theorem ex_lenM {o : Oper} {a : Act} {w : World} {m : Operand} {b n sz : Nat} {F : ByteArray → Option Nat} (ho : o.op = .call { callee := .builtin .len, args := #[m], argTypes := #[70] }) (hm : a.eval m = .map (some b)) (h : MapS w b n sz F) : (execOp a.eval o).run Tryz.prog w = .ok (.value (.int .i64 sz)) w := by
  simp [execOp, ho, resolve, invoke, builtin, hm, h.len o.type, Result.andThen]
theorem invS (key : Value) (kl : Lit) (h : keyOf Tryz.prog 9 key = some kl) : ∃ x, key = .string x := by
  obtain ⟨s, rfl, -⟩ := WideMaps.string_of_keyOf Tryz.underlying9 h
  exact ⟨s, rfl⟩
theorem invI (v : Value) (y : DataW Unit × List MemPlace) (h : intR v = some y) : ∃ c, v = .int .i64 c := by
  unfold intR at h
  split at h
  · exact ⟨_, rfl⟩
  · cases h
theorem ownsMap_block {w w' : World} {b n : Nat} {D : DataW Unit} (h : w.ownsMap Tryz.prog 9 intR b n D) (he : w'.heap[b]? = w.heap[b]?) : w'.ownsMap Tryz.prog 9 intR b n D := by
  obtain ⟨es, clock, hb, Ft, hs, hD⟩ := h
  exact ⟨es, clock, he.trans hb, Ft, hs, hD⟩
set_option maxRecDepth 100000 in
theorem known20_0 (R : RG) (w : World) {n : Nat} {F : ByteArray → Option Nat} (hR : R.Is w n 0 F) : Calls Tryz.prog 19 #[.pointer (some ⟨R.r, 0, none⟩)] w fun e w' => ∃ A c, e = .returned (.slice A 0 c) ∧ Below w.heap.size w w' := by
  have HR := hide hR
  have LL := hide (Hq.nil w [])
  clear hR
  obtain ⟨D, hD, hsz, -⟩ := (unhide HR).map
  have HD := hide hD
  have HSZ := hide hsz
  clear hD hsz
  go_enter Tryz.func19, Tryz.ntmps19
  go_wp2_with (first | go_skip | ((with_reducible show wpList _ _ _ _ _ _); first | ((refine rd (by rfl) (ex_load1 70 Tryz.isAgg70 rfl rfl (((unhide HR).fr (unhide LL).fr (by simp)).hold) rfl) ?_); simp only [Act.put, List.setIfInBounds_toArray, List.set_cons_succ, List.set_cons_zero]) | ((refine rd (by rfl) (ex_lenM rfl rfl (unhide HR).map) ?_); simp only [Act.put, List.setIfInBounds_toArray, List.set_cons_succ, List.set_cons_zero]) | ((refine mk_any 0 (by rfl) rfl rfl rfl Tryz.underlying53 info9 (by decide) (by decide) (by decide) ?_); intro X1 hO1 hb1; have HO := hide (own_mono hO1 (Nat.zero_le _)); have HB1 := hide hb1; replace LL := hide ((unhide LL).on hb1); obtain ⟨g, hg⟩ : ∃ g, g = w.heap.size := ⟨_, rfl⟩; have HGW := hide hg; rw [← hg] at HO ⊢; clear hO1 hb1 hg; simp only [Act.put, List.setIfInBounds_toArray, List.set_cons_succ, List.set_cons_zero]) | ((refine wpList_range_own _ rfl _ 70 rfl 9 3 law9 Tryz.underlying70 _ R.m n _ rfl (by exact (ownsMap_block (unhide HD) ((unhide HB1).block _ (unhide HD).lt))) ?_); intro X2 hrg hg2 hs2; obtain ⟨it, hit⟩ : ∃ it, it = X1.heap.size := ⟨_, rfl⟩; rw [← hit] at hrg ⊢; clear hit; have HRG := hide hrg; have HB2 := hide ((unhide HB1).grown hg2 (unhide HB1).size (fun j hj => by cases hj)); clear hrg hg2 hs2; simp only [Act.put, List.setIfInBounds_toArray, List.set_cons_succ, List.set_cons_zero])))
  go_loopg [3] 1 (fun gm s3 wr => s3 = .slice (some ⟨g, 0, none⟩) 0 0 ∧ wr = X2)
  case atStart => exact ⟨rfl, rfl⟩
  case round =>
    obtain ⟨rfl, hwr⟩ := hrel
    subst hwr
    have hs0 := unhide HSZ
    have HRG2 : Hid (wr.ranges Tryz.prog 9 intR R.m it n D (has D) 0) := by rw [hs0] at HRG; exact HRG
    clear hs0
    go_wp2_with (first | go_skip | ((with_reducible show wpList _ _ _ _ _ _); first | ((refine wpList_next_ranges _ rfl _ rfl 9 law9 intR Value.string (Value.int .i64) invS invI R.m it n D _ 0 rfl (unhide HRG2) ?_ (fun _ _ _ _ _ _ _ _ _ _ _ h => absurd h (Nat.not_lt_zero _))); intro _ _; simp only [Act.put, List.setIfInBounds_toArray, List.set_cons_succ, List.set_cons_zero])))
    refine (sort35 _ _ _ _).mono ?_
    rintro e X4 ⟨rfl, hb4⟩
    have HB4 := hide ((unhide HB2).trans (hb4.mono (unhide HB2).size))
    clear hb4
    go_wp2
    go_ret
    exact ⟨_, _, rfl, unhide HB4⟩
end Go.Proofs.YtkpfikeggleenaaGreatDoor
