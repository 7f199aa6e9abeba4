import Derived.Test.YtclahchmdcgdhaaGi
namespace Go.Proofs.Ytclahchmdcgdhaa
open Go.RowKit
set_option maxHeartbeats 2000000 in
set_option maxRecDepth 100000 in
theorem trim_any (A : Option Addr) (cap : Nat) (ds : List Nat) (P : Int) (hd : ∀ x ∈ ds, x < 10) (hlen : ds.length ≤ 1000000) (hcap : ds.length ≤ cap) (hP : -1000000000 ≤ P ∧ P ≤ 1000000000) (w : World)
    (hA : ∀ i, i < ds.length → ∃ b off, A = some ⟨b, off, none⟩ ∧ b < w.heap.size ∧ w.cell? ⟨b, off + i, none⟩ = some (.int .i64 (ds.getD i 0 : Nat))) :
    Calls Try.prog 63 #[.slice A ds.length cap, .int .i64 P] w fun e w' => ∃ f t P', e = .returned (.agg #[if f = t then .slice none 0 0 else .slice (A.map fun a => ⟨a.block, a.off + f, none⟩) (t - f) (cap - f), .int .i64 P']) ∧ f ≤ t ∧ t ≤ ds.length ∧ isDec ((ds.drop f).take (t - f)) P' (dv ds) (P - ds.length) ∧ Below w.heap.size w w' := by
  have HA : Hid _ := ⟨hA⟩; clear hA
  go_enter Try.func63, Try.ntmps63
  go_wp2
  go_loop [5] (fun iv => ∃ f : Nat, iv = .int .i64 (f : Nat) ∧ f ≤ ds.length ∧ ∀ x ∈ ds.take f, x = 0) (fun iv => ds.length - (intOf iv).toNat)
  case atStart => exact ⟨0, rfl, by omega, by simp⟩
  case round =>
    obtain ⟨f, rfl, hf, hz⟩ := hrel
    have HZ : Hid _ := ⟨hz⟩; clear hz
    by_cases hlt : f < ds.length
    · obtain ⟨b, off, rfl, hblt, hcell⟩ := HA.it f hlt
      have hg : ds[f]? = some (ds.getD f 0) := by rw [List.getD_eq_getElem?_getD, List.getElem?_eq_getElem hlt]; rfl
      have HG : Hid _ := ⟨hg⟩; clear hg
      have hk1 : (f : Int) < (ds.length : Int) := by omega
      generalize ds.getD f 0 = x at *
      by_cases hx : x = 0
      · subst hx
        go_wp2
        refine ⟨⟨f + 1, by go_num, by omega, ?_⟩, by simp [intOf]; omega⟩
        intro y hy
        rw [List.take_add_one, HG.it] at hy
        rcases List.mem_append.1 hy with hy | hy
        · exact HZ.it y hy
        · simpa using hy
      · have hxi : ((x : Int) == 0) = false := by simp; omega
        go_wp2
        go_loop [6] (fun tv => ∃ t : Nat, tv = .int .i64 (t : Nat) ∧ f < t ∧ t ≤ ds.length ∧ ∀ x ∈ ds.drop t, x = 0) (fun tv => (intOf tv).toNat)
        case atStart => exact ⟨ds.length, rfl, by omega, by omega, by simp⟩
        case round =>
          obtain ⟨t, rfl, hft, ht, hz2⟩ := hrel
          have HZ2 : Hid _ := ⟨hz2⟩; clear hz2
          obtain ⟨t, rfl⟩ : ∃ u, t = u + 1 := ⟨t - 1, by omega⟩
          obtain ⟨b2, off2, hbe, hblt2, hcell2⟩ := HA.it t (by omega)
          cases hbe
          have hg2 : ds[t]? = some (ds.getD t 0) := by rw [List.getD_eq_getElem?_getD, List.getElem?_eq_getElem (by omega)]; rfl
          have HDR : Hid _ := ⟨drop_getD ds t (by omega)⟩
          have HG2 : Hid _ := ⟨hg2⟩; clear hg2
          generalize ds.getD t 0 = y at *
          have hk2 : (f : Int) < ((t + 1 : Nat) : Int) := by omega
          by_cases hy : y = 0
          · subst hy
            have hne : f ≠ t := by
              intro e
              subst e
              have := HG.it.symm.trans HG2.it
              simp at this
              exact hx this
            go_wp2
            refine ⟨⟨t, by go_num, by omega, by omega, ?_⟩, by simp [intOf]⟩
            intro z hz
            rw [HDR.it] at hz
            rcases List.mem_cons.1 hz with hz | hz
            · exact hz
            · exact HZ2.it z hz
          · have hyi : ((y : Int) == 0) = false := by simpa using hy
            have hne : ((f : Int) == ((t + 1 : Nat) : Int)) = false := by simp; omega
            go_wp2
            refine bodyPost_ret (results_cell_row (P := Try.prog) rfl _ _ w.heap.size 64 _ _ _ rfl (heap_alloc_new w _) Try.underlying64 rfl (by kernel_rfl)) rfl ?_
            refine ⟨f, t + 1, P - f, ?_, by omega, by omega, trim_dec ds P f (t + 1) hd HZ.it (fun z hz => by rw [HG.it] at hz; cases hz; exact hx) (by omega) (by omega) HZ2.it, ?_⟩
            · rw [if_neg (by omega)]
            · exact (Below.refl _ w).alloc (Nat.le_refl _) _
    · have hfe : f = ds.length := by omega
      subst hfe
      go_wp2
      go_loop [6] (fun tv => tv = .int .i64 (ds.length : Nat)) (fun tv => 0)
      case atStart => rfl
      case round =>
        subst hrel
        go_wp2
        refine bodyPost_ret (results_cell_row (P := Try.prog) rfl _ _ w.heap.size 64 _ _ _ rfl (heap_alloc_new w _) Try.underlying64 rfl (by kernel_rfl)) rfl ?_
        refine ⟨ds.length, ds.length, 0, ?_, Nat.le_refl _, Nat.le_refl _, ?_, (Below.refl _ w).alloc (Nat.le_refl _) _⟩
        · simp
        · have hz := HZ.it
          rw [List.take_length] at hz
          simp only [Nat.sub_self, List.take_zero]
          exact ⟨by simp, fun _ => dv_zeros _ hz, fun x l e => by cases e⟩
end Go.Proofs.Ytclahchmdcgdhaa
