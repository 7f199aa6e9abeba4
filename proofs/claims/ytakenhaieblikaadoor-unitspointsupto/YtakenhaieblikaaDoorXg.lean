import Derived.Test.YtakenhaieblikaaDoorXf
import Derived.Laws.EntriesVeiled
namespace Go.Proofs.YtakenhaieblikaaDoor
open Go.RowKit Go.Shelf
attribute [local go_sem] Oper.semAt_some

theorem points_bad (s : ByteArray) (hv : vS s = false) (w : World) (hT : Lib.Utf8Tabs 0 1 w) :
    Calls Tryd.prog 35 #[.string s] w fun e w' => e = .returned (.func (.func 61) #[] #[]) ∧ Below w.heap.size w w' := by
  have HV := hide (valid_v s false hv w hT)
  clear hv hT
  go_enter Tryd.func35, Tryd.ntmps35
  go_wp2_with fail
  refine (unhide HV).mono ?_
  rintro e w1 ⟨rfl, hb⟩
  go_wp2
  go_ret
  exact ⟨rfl, hb⟩
theorem points_good (s : ByteArray) (hv : vS s = true) (w : World) (hT : Lib.Utf8Tabs 0 1 w) :
    Calls Tryd.prog 35 #[.string s] w fun e w' => ∃ w1, e = .returned (.func (.func 64) #[] #[.pointer (some ⟨w1.heap.size, 0, none⟩)]) ∧ w' = w1.alloc (.cells #[.string s] 9) ∧ Below w.heap.size w w1 := by
  have HV := hide (valid_v s true hv w hT)
  clear hv hT
  go_enter Tryd.func35, Tryd.ntmps35
  go_wp2_with fail
  refine (unhide HV).mono ?_
  rintro e w1 ⟨rfl, hb⟩
  go_wp2_with fail
  refine (walk_any s w1).mono ?_
  rintro e w2 ⟨rfl, rfl⟩
  go_wp2
  go_ret
  exact ⟨w1, rfl, rfl, hb⟩
/-- The empty iterator. -/
theorem empty_stops (n n₀ : Nat) (w : World) :
    SeqStopsK Fence.wide n Tryd.prog 61 #[] encs (Below n₀) (fun ys => ys = ([] : List PT)) (fun pre => pre <+: ([] : List PT)) 0 w := fun l J Jx W hW hAb _ hY h0 => by
  refine callsIn_of_wp Tryd.func61 rfl trivial ?_ rfl
  simp only [Tryd.ntmps61, List.size_toArray, List.length_cons, List.length_nil, Nat.reduceAdd, Nat.reduceSub, Array.replicate_succ, Array.replicate_zero, List.push_toArray, List.append_toArray, List.nil_append, List.cons_append]
  gi_wp2
  go_end0
  exact ⟨⟨_, rfl⟩, .inl ⟨[], rfl, h0⟩⟩
/-- The points of a row are what the walk yields. -/
theorem rowP_pts : ∀ (cs : List CP) (k : Nat) (h : Bool), M.noPair h (cs.map (·.1)) = true → rowP k (unitsN (cs.map (·.1))) = (pts k cs).map (·.1)
  | [], k, _, _ => rfl
  | c :: r, k, h, hp => by
    have hp2 : M.noPair (M.isHi c.1) (r.map (·.1)) = true := by
      simp only [List.map_cons, M.noPair, Bool.and_eq_true] at hp; exact hp.2
    have ih := fun k' => rowP_pts r k' (M.isHi c.1) hp2
    have hsm : M.small (r.map (·.1)) := fun x hx => by
      obtain ⟨y, _, rfl⟩ := List.mem_map.1 hx; exact y.2
    rw [List.map_cons, unitsN_cons]
    simp only [pts, List.map_cons]
    by_cases hb : 65536 ≤ c.1
    · have hc := c.2
      have hw : wid c.1 = 2 := by unfold wid; rw [if_pos hb]
      rw [U_two hb, hw]
      have hH : (M.isHi (fstU c.1) && M.isLo (sndU c.1)) = true := by
        rw [Bool.and_eq_true, M.isHi_iff, M.isLo_iff]
        unfold fstU sndU
        rw [if_pos hb]; omega
      show rowP k (fstU c.1 :: sndU c.1 :: unitsN (r.map (·.1))) = _
      have hj : 65536 + 1024 * (fstU c.1 - 55296) + (sndU c.1 - 56320) = c.1 := by
        unfold fstU sndU
        rw [if_pos hb]; omega
      rw [rowP_pair _ _ _ _ hH, ih, hj]
    · have hw : wid c.1 = 1 := by unfold wid; rw [if_neg hb]
      have hf : fstU c.1 = c.1 := by unfold fstU; rw [if_neg hb]
      rw [U_one hb, hw, hf]
      show rowP k (c.1 :: unitsN (r.map (·.1))) = _
      rw [rowP_single, ih]
      exact M.flat_U_head c.1 _ hsm hp2
set_option maxRecDepth 100000 in
/-- An iterator is not nil. -/
theorem eql_nil1 (fn : Fn) (a b : Array Value) (w : World) : (binOp .eql 63 (.func fn a b) .nilFunc).run Tryd.prog w = .ok (.bool false) w := by kernel_rfl
end Go.Proofs.YtakenhaieblikaaDoor
