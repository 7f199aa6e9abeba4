import Derived.Test.YtpbdidnphkkenaaGreatDoorRn
set_option linter.all false
namespace Go.Proofs.YtpbdidnphkkenaaGreatDoor
set_option maxHeartbeats 1000000
section
open Go Go.Proofs Go.Maps Go.RowKit
/-- Both tables of each side are exchanged. -/
def PS.swap (S : PS) : PS := ⟨S.P, S.T1, S.T0, S.R1, S.R0, S.left, S.C⟩
theorem PS.Is.swapped {S : PS} {W W' : World} {base N : Nat} (h : S.Is W base N) (h0 : S.C = []) (hf : Fr W W' [S.P]) (hc : Holds W' S.P S.swap.cs) : S.swap.Is W' base N ∧ Went S S.swap W W' := by
  have n : ∀ i B, S.parts[i]? = some B → 0 < i → ∀ b ∈ B, b ∉ [S.P] := fun i B hi h0 b hb hm => by
    obtain rfl : b = S.P := by simpa using hm
    exact h.bs.d 0 i _ _ rfl hi h0 S.P (by simp) hb
  have hmem : ∀ b, b ∈ S.swap.parts.flatten ↔ b ∈ S.parts.flatten := fun b => by
    simp only [PS.parts, PS.swap, List.flatten_cons, List.flatten_nil, List.mem_append, List.append_nil]
    constructor
    · rintro (h | h | h | h | h)
      · exact .inl h
      · exact .inr (.inr (.inl h))
      · exact .inr (.inl h)
      · exact .inr (.inr (.inr (.inr h)))
      · exact .inr (.inr (.inr (.inl h)))
    · rintro (h | h | h | h | h)
      · exact .inl h
      · exact .inr (.inr (.inl h))
      · exact .inr (.inl h)
      · exact .inr (.inr (.inr (.inr h)))
      · exact .inr (.inr (.inr (.inl h)))
  have d := h.bs.d
  refine ⟨⟨⟨hc, h.bs.t1.fr hf (n 2 _ rfl (by omega)), h.bs.t0.fr hf (n 1 _ rfl (by omega)), h.bs.r1.fr hf (n 4 _ rfl (by omega)), h.bs.r0.fr hf (n 3 _ rfl (by omega)), ?_, ?_, h.bs.four, Nat.le_trans h.bs.size hf.size⟩, h.rel1, h.rel0, ⟨h.last.2, h.last.1⟩, ⟨h.nx.2.2.1, h.nx.2.2.2, h.nx.1, h.nx.2.1⟩, ⟨h.ris.2, h.ris.1⟩, fun c hc' => by rw [show S.swap.C = S.C from rfl, h0] at hc'; cases hc'⟩, rfl, hf.mono (fun b hb => .inl ?_), fun b hb => .inl ((hmem b).1 hb), rfl, rfl, fun hc => absurd h0 hc⟩
  · unfold PS.parts PS.swap
    refine List.pairwise_cons.2 ⟨?_, List.pairwise_cons.2 ⟨?_, List.pairwise_cons.2 ⟨?_, List.pairwise_cons.2 ⟨?_, List.pairwise_cons.2 ⟨?_, List.Pairwise.nil⟩⟩⟩⟩⟩
    · intro B hB
      simp only [List.mem_cons, List.not_mem_nil, or_false] at hB
      rcases hB with rfl | rfl | rfl | rfl
      · exact d 0 2 _ _ rfl rfl (by omega)
      · exact d 0 1 _ _ rfl rfl (by omega)
      · exact d 0 4 _ _ rfl rfl (by omega)
      · exact d 0 3 _ _ rfl rfl (by omega)
    · intro B hB
      simp only [List.mem_cons, List.not_mem_nil, or_false] at hB
      rcases hB with rfl | rfl | rfl
      · exact (d 1 2 _ _ rfl rfl (by omega)).symm
      · exact d 2 4 _ _ rfl rfl (by omega)
      · exact d 2 3 _ _ rfl rfl (by omega)
    · intro B hB
      simp only [List.mem_cons, List.not_mem_nil, or_false] at hB
      rcases hB with rfl | rfl
      · exact d 1 4 _ _ rfl rfl (by omega)
      · exact d 1 3 _ _ rfl rfl (by omega)
    · intro B hB
      obtain rfl : B = S.R0.blocks := by simpa using hB
      exact (d 3 4 _ _ rfl rfl (by omega)).symm
    · intro B hB
      cases hB
  · intro B hB b hb
    obtain ⟨C, hC, hbC⟩ := List.mem_flatten.1 ((hmem b).1 (List.mem_flatten.2 ⟨B, hB, hb⟩))
    exact h.bs.low C hC b hbC
  · obtain rfl : b = S.P := by simpa using hb
    exact List.mem_flatten.2 ⟨[S.P], by simp [PS.parts], by simp⟩
theorem siz26 : (Tryz.prog.info? 26).map (·.size) = some 1 := by kernel_rfl
theorem siz28 : (Tryz.prog.info? 28).map (·.size) = some 1 := by kernel_rfl
set_option maxRecDepth 100000 in
theorem play_swap (S : PS) (k : KK) (d : DD) (nn : Int) (inner : Value) (dep : Int) (w : World) (base N : Nat) (hS : S.Is w base N) (hN : N < 800000) (h0 : S.C = []) : Calls Tryz.prog 8 #[.pointer (some ⟨S.P, 0, none⟩), actV 10 k d nn inner, .int .i64 dep] w fun e w' => e = .returned (.bool true) ∧ ∃ S', S'.Is w' base (N + 1) ∧ Went S S' w w' := by
  have HP := hide hS.bs.hold
  have HLT := hide hS.bs.lt
  have HS := hide hS
  clear hS
  unfold actV
  go_enter Tryz.func8, Tryz.ntmps8
  go_wp2_with (first | go_skip | (refine bx 41 (actCs 10 k d nn inner) (by rfl) rfl rfl rfl (Nat.succ_pos _) (Hq.nil w []) ?_; intro w1 B hB L1 hb1; replace HP := hide ((unhide HS).bs.on hb1).hold; replace HS := hide ((unhide HS).on hb1); have LL := hide L1; have HB1 := hide hb1; have HB := hide hB; clear hB L1 hb1; simp only [Act.put, nzA, nzB, nzC]) | (refine rd (by rfl) (ex_load1 26 Tryz.isAgg26 rfl rfl (unhide HP) rfl) ?_; simp only [Act.put, nzA, nzB, nzC]) | (refine rd (by rfl) (ex_load1 28 Tryz.isAgg28 rfl rfl (unhide HP) rfl) ?_; simp only [Act.put, nzA, nzB, nzC]) | (refine rd (by rfl) (ex_load1 3 Tryz.isAgg3 rfl rfl ((unhide LL).get 0 rfl) rfl) ?_; simp only [Act.put, nzA, nzB, nzC]))
  refine wp_region_held_drew (P := Tryz.prog) (S := fun _ => True) (by kernel_rfl) trivial (fun hS0 => ?_)
  have hC : Holds w1.drew S.P [.pointer (some ⟨S.T0.t, 0, none⟩), .pointer (some ⟨S.T1.t, 0, none⟩), .pointer (some ⟨S.R0.t, 0, none⟩), .pointer (some ⟨S.R1.t, 0, none⟩), .int .i64 S.left] := (unhide HP).block rfl
  refine gsem 0 (some 170) (.pointer (some ⟨S.P, 0, none⟩)) rfl (by kernel_rfl) (by kernel_rfl) (by kernel_rfl) (fun _ _ _ h => h) (by kernel_rfl) (by kernel_rfl) (fun _ _ => by kernel_rfl) trivial ?_
  simp only [Act.put, nzA, nzB, nzC]
  refine gsem 1 (some 171) (.pointer (some ⟨S.P, 0, none⟩)) rfl (by kernel_rfl) (by kernel_rfl) (by kernel_rfl) (fun _ _ _ h => h) (by kernel_rfl) (by kernel_rfl) (fun _ _ => by kernel_rfl) trivial ?_
  simp only [Act.put, nzA, nzB, nzC]
  refine gsem 2 (some 172) (.pointer (some ⟨S.P, 0, none⟩)) rfl (by kernel_rfl) (by kernel_rfl) (by kernel_rfl) (fun _ _ _ h => h) (by kernel_rfl) (by kernel_rfl) (fun _ _ => by kernel_rfl) trivial ?_
  simp only [Act.put, nzA, nzB, nzC]
  refine gsem 3 (some 173) (.pointer (some ⟨S.P, 0, none⟩)) rfl (by kernel_rfl) (by kernel_rfl) (by kernel_rfl) (fun _ _ _ h => h) (by kernel_rfl) (by kernel_rfl) (fun _ _ => by kernel_rfl) trivial ?_
  simp only [Act.put, nzA, nzB, nzC]
  refine gsem 4 (some 174) (.pointer (some ⟨S.P, 0, none⟩)) rfl (by kernel_rfl) (by kernel_rfl) (by kernel_rfl) (fun _ _ _ h => h) (by kernel_rfl) (by kernel_rfl) (fun _ _ => by kernel_rfl) trivial ?_
  simp only [Act.put, nzA, nzB, nzC]
  refine gsem 5 (some 175) (.pointer (some ⟨S.P, 1, none⟩)) rfl (by kernel_rfl) (by kernel_rfl) (by kernel_rfl) (fun _ _ _ h => h) (by kernel_rfl) (by kernel_rfl) (fun _ _ => by kernel_rfl) trivial ?_
  simp only [Act.put, nzA, nzB, nzC]
  refine gsem 7 (some 177) (.pointer (some ⟨S.P, 0, none⟩)) rfl (by kernel_rfl) (by kernel_rfl) (by kernel_rfl) (fun _ _ _ h => h) (by kernel_rfl) (by kernel_rfl) (fun _ _ => by kernel_rfl) trivial ?_
  simp only [Act.put, nzA, nzB, nzC]
  refine gsem 8 (some 178) (.pointer (some ⟨S.P, 0, none⟩)) rfl (by kernel_rfl) (by kernel_rfl) (by kernel_rfl) (fun _ _ _ h => h) (by kernel_rfl) (by kernel_rfl) (fun _ _ => by kernel_rfl) trivial ?_
  simp only [Act.put, nzA, nzB, nzC]
  refine gsem 9 (some 179) (.pointer (some ⟨S.P, 0, none⟩)) rfl (by kernel_rfl) (by kernel_rfl) (by kernel_rfl) (fun _ _ _ h => h) (by kernel_rfl) (by kernel_rfl) (fun _ _ => by kernel_rfl) trivial ?_
  simp only [Act.put, nzA, nzB, nzC]
  refine gsem 10 (some 180) (.pointer (some ⟨S.P, 0, none⟩)) rfl (by kernel_rfl) (by kernel_rfl) (by kernel_rfl) (fun _ _ _ h => h) (by kernel_rfl) (by kernel_rfl) (fun _ _ => by kernel_rfl) trivial ?_
  simp only [Act.put, nzA, nzB, nzC]
  refine gsem 12 (some 182) (.pointer (some ⟨S.P, 0, none⟩)) rfl (by kernel_rfl) (by kernel_rfl) (by kernel_rfl) (fun _ _ _ h => h) (by kernel_rfl) (by kernel_rfl) (fun _ _ => by kernel_rfl) trivial ?_
  simp only [Act.put, nzA, nzB, nzC]
  refine gsem 13 (some 183) (.pointer (some ⟨S.P, 0, none⟩)) rfl (by kernel_rfl) (by kernel_rfl) (by kernel_rfl) (fun _ _ _ h => h) (by kernel_rfl) (by kernel_rfl) (fun _ _ => by kernel_rfl) trivial ?_
  simp only [Act.put, nzA, nzB, nzC]
  refine gsem 16 (some 185) (.pointer (some ⟨S.P, 0, none⟩)) rfl (by kernel_rfl) (by kernel_rfl) (by kernel_rfl) (fun _ _ _ h => h) (by kernel_rfl) (by kernel_rfl) (fun _ _ => by kernel_rfl) trivial ?_
  simp only [Act.put, nzA, nzB, nzC]
  refine gsem 17 (some 186) (.pointer (some ⟨S.P, 0, none⟩)) rfl (by kernel_rfl) (by kernel_rfl) (by kernel_rfl) (fun _ _ _ h => h) (by kernel_rfl) (by kernel_rfl) (fun _ _ => by kernel_rfl) trivial ?_
  simp only [Act.put, nzA, nzB, nzC]
  refine wpAnyH_ready (rs := [6, 11]) (by kernel_rfl) (by simp) (gval 6 (some 176) rfl (by kernel_rfl) (by kernel_rfl) (ex_load1 26 Tryz.isAgg26 rfl rfl hC rfl) trivial ?_ (gval 11 (some 181) rfl (by kernel_rfl) (by kernel_rfl) (ex_load1 26 Tryz.isAgg26 rfl rfl hC rfl) trivial ?_ AllReadyH.nil))
  · simp only [Act.put, nzA, nzB, nzC]
    refine wpAnyH_ready (rs := [11]) (by kernel_rfl) (by simp) (gval 11 (some 181) rfl (by kernel_rfl) (by kernel_rfl) (ex_load1 26 Tryz.isAgg26 rfl rfl hC rfl) trivial ?_ AllReadyH.nil)
    simp only [Act.put, nzA, nzB, nzC]
    refine gsem 14 (some 184) (.pointer (some ⟨S.P, 0, none⟩)) rfl (by kernel_rfl) (by kernel_rfl) (by kernel_rfl) (fun _ _ _ h => h) (by kernel_rfl) (by kernel_rfl) (fun _ _ => by kernel_rfl) trivial ?_
    simp only [Act.put, nzA, nzB, nzC]
    refine wpAnyH_ready (rs := [15]) (by kernel_rfl) (by simp) (gskp 15 none rfl (by kernel_rfl) (by kernel_rfl) (ex_store (t := 26) (vs := [.pointer (some ⟨S.T1.t, 0, none⟩)]) rfl rfl rfl rfl (by simp [Value.oneCell']) siz26 hC (by simp)) trivial ?_ AllReadyH.nil)
    have hF1 := Fr.setCells w1.drew S.P 0 [.pointer (some ⟨S.T1.t, 0, none⟩)]
    have hC1 : Holds _ S.P [.pointer (some ⟨S.T1.t, 0, none⟩), .pointer (some ⟨S.T1.t, 0, none⟩), .pointer (some ⟨S.R0.t, 0, none⟩), .pointer (some ⟨S.R1.t, 0, none⟩), .int .i64 S.left] := hC.put 0 [.pointer (some ⟨S.T1.t, 0, none⟩)] (by simp)
    generalize World.setCells _ _ _ _ = y1 at *
    clear hC
    have hC := hC1
    clear hC1
    simp only [Act.put, nzA, nzB, nzC]
    refine gsem 18 (some 187) (.pointer (some ⟨S.P, 1, none⟩)) rfl (by kernel_rfl) (by kernel_rfl) (by kernel_rfl) (fun _ _ _ h => h) (by kernel_rfl) (by kernel_rfl) (fun _ _ => by kernel_rfl) trivial ?_
    simp only [Act.put, nzA, nzB, nzC]
    refine wpAnyH_ready (rs := [19]) (by kernel_rfl) (by simp) (gskp 19 none rfl (by kernel_rfl) (by kernel_rfl) (ex_store (t := 26) (vs := [.pointer (some ⟨S.T0.t, 0, none⟩)]) rfl rfl rfl rfl (by simp [Value.oneCell']) siz26 hC (by simp)) trivial ?_ AllReadyH.nil)
    have hF2 := hF1.trans (Fr.setCells y1 S.P 1 [.pointer (some ⟨S.T0.t, 0, none⟩)]) (fun b hb => .inl hb)
    have hC2 : Holds _ S.P [.pointer (some ⟨S.T1.t, 0, none⟩), .pointer (some ⟨S.T0.t, 0, none⟩), .pointer (some ⟨S.R0.t, 0, none⟩), .pointer (some ⟨S.R1.t, 0, none⟩), .int .i64 S.left] := hC.put 1 [.pointer (some ⟨S.T0.t, 0, none⟩)] (by simp)
    generalize World.setCells y1 _ _ _ = y2 at *
    clear hC hF1
    simp only [Act.put, nzA, nzB, nzC]
    refine wpAnyH_done (by kernel_rfl) ?_ _
    try simp only [Act.put, nzA, nzB, nzC]
    have hA : Fr w1 y2 [S.P] := (Fr.refl w1 [S.P]).drew.trans hF2 (fun b hb => .inl hb)
    have HA := hide hA
    have HC2 := hide hC2
    clear hA hF2 hC2
    go_wp2
    refine wp_region_held_drew (P := Tryz.prog) (S := fun _ => True) (by kernel_rfl) trivial (fun hS0 => ?_)
    have hC : Holds y2.drew S.P [.pointer (some ⟨S.T1.t, 0, none⟩), .pointer (some ⟨S.T0.t, 0, none⟩), .pointer (some ⟨S.R0.t, 0, none⟩), .pointer (some ⟨S.R1.t, 0, none⟩), .int .i64 S.left] := (unhide HC2).block rfl
    refine gsem 0 (some 188) (.pointer (some ⟨S.P, 0, none⟩)) rfl (by kernel_rfl) (by kernel_rfl) (by kernel_rfl) (fun _ _ _ h => h) (by kernel_rfl) (by kernel_rfl) (fun _ _ => by kernel_rfl) trivial ?_
    simp only [Act.put, nzA, nzB, nzC]
    refine gsem 1 (some 189) (.pointer (some ⟨S.P, 0, none⟩)) rfl (by kernel_rfl) (by kernel_rfl) (by kernel_rfl) (fun _ _ _ h => h) (by kernel_rfl) (by kernel_rfl) (fun _ _ => by kernel_rfl) trivial ?_
    simp only [Act.put, nzA, nzB, nzC]
    refine gsem 2 (some 190) (.pointer (some ⟨S.P, 0, none⟩)) rfl (by kernel_rfl) (by kernel_rfl) (by kernel_rfl) (fun _ _ _ h => h) (by kernel_rfl) (by kernel_rfl) (fun _ _ => by kernel_rfl) trivial ?_
    simp only [Act.put, nzA, nzB, nzC]
    refine gsem 3 (some 191) (.pointer (some ⟨S.P, 0, none⟩)) rfl (by kernel_rfl) (by kernel_rfl) (by kernel_rfl) (fun _ _ _ h => h) (by kernel_rfl) (by kernel_rfl) (fun _ _ => by kernel_rfl) trivial ?_
    simp only [Act.put, nzA, nzB, nzC]
    refine gsem 4 (some 192) (.pointer (some ⟨S.P, 2, none⟩)) rfl (by kernel_rfl) (by kernel_rfl) (by kernel_rfl) (fun _ _ _ h => h) (by kernel_rfl) (by kernel_rfl) (fun _ _ => by kernel_rfl) trivial ?_
    simp only [Act.put, nzA, nzB, nzC]
    refine gsem 5 (some 193) (.pointer (some ⟨S.P, 3, none⟩)) rfl (by kernel_rfl) (by kernel_rfl) (by kernel_rfl) (fun _ _ _ h => h) (by kernel_rfl) (by kernel_rfl) (fun _ _ => by kernel_rfl) trivial ?_
    simp only [Act.put, nzA, nzB, nzC]
    refine gsem 7 (some 195) (.pointer (some ⟨S.P, 0, none⟩)) rfl (by kernel_rfl) (by kernel_rfl) (by kernel_rfl) (fun _ _ _ h => h) (by kernel_rfl) (by kernel_rfl) (fun _ _ => by kernel_rfl) trivial ?_
    simp only [Act.put, nzA, nzB, nzC]
    refine gsem 8 (some 196) (.pointer (some ⟨S.P, 0, none⟩)) rfl (by kernel_rfl) (by kernel_rfl) (by kernel_rfl) (fun _ _ _ h => h) (by kernel_rfl) (by kernel_rfl) (fun _ _ => by kernel_rfl) trivial ?_
    simp only [Act.put, nzA, nzB, nzC]
    refine gsem 9 (some 197) (.pointer (some ⟨S.P, 2, none⟩)) rfl (by kernel_rfl) (by kernel_rfl) (by kernel_rfl) (fun _ _ _ h => h) (by kernel_rfl) (by kernel_rfl) (fun _ _ => by kernel_rfl) trivial ?_
    simp only [Act.put, nzA, nzB, nzC]
    refine gsem 10 (some 198) (.pointer (some ⟨S.P, 2, none⟩)) rfl (by kernel_rfl) (by kernel_rfl) (by kernel_rfl) (fun _ _ _ h => h) (by kernel_rfl) (by kernel_rfl) (fun _ _ => by kernel_rfl) trivial ?_
    simp only [Act.put, nzA, nzB, nzC]
    refine gsem 12 (some 200) (.pointer (some ⟨S.P, 0, none⟩)) rfl (by kernel_rfl) (by kernel_rfl) (by kernel_rfl) (fun _ _ _ h => h) (by kernel_rfl) (by kernel_rfl) (fun _ _ => by kernel_rfl) trivial ?_
    simp only [Act.put, nzA, nzB, nzC]
    refine gsem 13 (some 201) (.pointer (some ⟨S.P, 2, none⟩)) rfl (by kernel_rfl) (by kernel_rfl) (by kernel_rfl) (fun _ _ _ h => h) (by kernel_rfl) (by kernel_rfl) (fun _ _ => by kernel_rfl) trivial ?_
    simp only [Act.put, nzA, nzB, nzC]
    refine gsem 16 (some 203) (.pointer (some ⟨S.P, 0, none⟩)) rfl (by kernel_rfl) (by kernel_rfl) (by kernel_rfl) (fun _ _ _ h => h) (by kernel_rfl) (by kernel_rfl) (fun _ _ => by kernel_rfl) trivial ?_
    simp only [Act.put, nzA, nzB, nzC]
    refine gsem 17 (some 204) (.pointer (some ⟨S.P, 2, none⟩)) rfl (by kernel_rfl) (by kernel_rfl) (by kernel_rfl) (fun _ _ _ h => h) (by kernel_rfl) (by kernel_rfl) (fun _ _ => by kernel_rfl) trivial ?_
    simp only [Act.put, nzA, nzB, nzC]
    refine wpAnyH_ready (rs := [6, 11]) (by kernel_rfl) (by simp) (gval 6 (some 194) rfl (by kernel_rfl) (by kernel_rfl) (ex_load1 28 Tryz.isAgg28 rfl rfl hC rfl) trivial ?_ (gval 11 (some 199) rfl (by kernel_rfl) (by kernel_rfl) (ex_load1 28 Tryz.isAgg28 rfl rfl hC rfl) trivial ?_ AllReadyH.nil))
    · simp only [Act.put, nzA, nzB, nzC]
      refine wpAnyH_ready (rs := [11]) (by kernel_rfl) (by simp) (gval 11 (some 199) rfl (by kernel_rfl) (by kernel_rfl) (ex_load1 28 Tryz.isAgg28 rfl rfl hC rfl) trivial ?_ AllReadyH.nil)
      simp only [Act.put, nzA, nzB, nzC]
      refine gsem 14 (some 202) (.pointer (some ⟨S.P, 2, none⟩)) rfl (by kernel_rfl) (by kernel_rfl) (by kernel_rfl) (fun _ _ _ h => h) (by kernel_rfl) (by kernel_rfl) (fun _ _ => by kernel_rfl) trivial ?_
      simp only [Act.put, nzA, nzB, nzC]
      refine wpAnyH_ready (rs := [15]) (by kernel_rfl) (by simp) (gskp 15 none rfl (by kernel_rfl) (by kernel_rfl) (ex_store (t := 28) (vs := [.pointer (some ⟨S.R1.t, 0, none⟩)]) rfl rfl rfl rfl (by simp [Value.oneCell']) siz28 hC (by simp)) trivial ?_ AllReadyH.nil)
      have hF1 := Fr.setCells y2.drew S.P 2 [.pointer (some ⟨S.R1.t, 0, none⟩)]
      have hC1 : Holds _ S.P [.pointer (some ⟨S.T1.t, 0, none⟩), .pointer (some ⟨S.T0.t, 0, none⟩), .pointer (some ⟨S.R1.t, 0, none⟩), .pointer (some ⟨S.R1.t, 0, none⟩), .int .i64 S.left] := hC.put 2 [.pointer (some ⟨S.R1.t, 0, none⟩)] (by simp)
      generalize World.setCells _ _ _ _ = y1 at *
      clear hC
      have hC := hC1
      clear hC1
      simp only [Act.put, nzA, nzB, nzC]
      refine gsem 18 (some 205) (.pointer (some ⟨S.P, 3, none⟩)) rfl (by kernel_rfl) (by kernel_rfl) (by kernel_rfl) (fun _ _ _ h => h) (by kernel_rfl) (by kernel_rfl) (fun _ _ => by kernel_rfl) trivial ?_
      simp only [Act.put, nzA, nzB, nzC]
      refine wpAnyH_ready (rs := [19]) (by kernel_rfl) (by simp) (gskp 19 none rfl (by kernel_rfl) (by kernel_rfl) (ex_store (t := 28) (vs := [.pointer (some ⟨S.R0.t, 0, none⟩)]) rfl rfl rfl rfl (by simp [Value.oneCell']) siz28 hC (by simp)) trivial ?_ AllReadyH.nil)
      have hF2 := hF1.trans (Fr.setCells y1 S.P 3 [.pointer (some ⟨S.R0.t, 0, none⟩)]) (fun b hb => .inl hb)
      have hC2 : Holds _ S.P [.pointer (some ⟨S.T1.t, 0, none⟩), .pointer (some ⟨S.T0.t, 0, none⟩), .pointer (some ⟨S.R1.t, 0, none⟩), .pointer (some ⟨S.R0.t, 0, none⟩), .int .i64 S.left] := hC.put 3 [.pointer (some ⟨S.R0.t, 0, none⟩)] (by simp)
      generalize World.setCells y1 _ _ _ = y3 at *
      clear hC hF1
      simp only [Act.put, nzA, nzB, nzC]
      refine wpAnyH_done (by kernel_rfl) ?_ _
      try simp only [Act.put, nzA, nzB, nzC]
      have hB : Fr w1 y3 [S.P] := ((unhide HA).drew.trans hF2 (fun b hb => .inl hb))
      have FIN := hide ((unhide HS).swapped h0 hB hC2)
      clear hB hF2 hC2
      go_wp2
      go_ret
      exact ⟨rfl, S.swap, (unhide FIN).1.mono (Nat.le_succ _), (Went.refl S (unhide HB1)).trans (unhide FIN).2⟩
    · simp only [Act.put, nzA, nzB, nzC]
      refine wpAnyH_ready (rs := [6]) (by kernel_rfl) (by simp) (gval 6 (some 194) rfl (by kernel_rfl) (by kernel_rfl) (ex_load1 28 Tryz.isAgg28 rfl rfl hC rfl) trivial ?_ AllReadyH.nil)
      simp only [Act.put, nzA, nzB, nzC]
      refine gsem 14 (some 202) (.pointer (some ⟨S.P, 2, none⟩)) rfl (by kernel_rfl) (by kernel_rfl) (by kernel_rfl) (fun _ _ _ h => h) (by kernel_rfl) (by kernel_rfl) (fun _ _ => by kernel_rfl) trivial ?_
      simp only [Act.put, nzA, nzB, nzC]
      refine wpAnyH_ready (rs := [15]) (by kernel_rfl) (by simp) (gskp 15 none rfl (by kernel_rfl) (by kernel_rfl) (ex_store (t := 28) (vs := [.pointer (some ⟨S.R1.t, 0, none⟩)]) rfl rfl rfl rfl (by simp [Value.oneCell']) siz28 hC (by simp)) trivial ?_ AllReadyH.nil)
      have hF1 := Fr.setCells y2.drew S.P 2 [.pointer (some ⟨S.R1.t, 0, none⟩)]
      have hC1 : Holds _ S.P [.pointer (some ⟨S.T1.t, 0, none⟩), .pointer (some ⟨S.T0.t, 0, none⟩), .pointer (some ⟨S.R1.t, 0, none⟩), .pointer (some ⟨S.R1.t, 0, none⟩), .int .i64 S.left] := hC.put 2 [.pointer (some ⟨S.R1.t, 0, none⟩)] (by simp)
      generalize World.setCells _ _ _ _ = y1 at *
      clear hC
      have hC := hC1
      clear hC1
      simp only [Act.put, nzA, nzB, nzC]
      refine gsem 18 (some 205) (.pointer (some ⟨S.P, 3, none⟩)) rfl (by kernel_rfl) (by kernel_rfl) (by kernel_rfl) (fun _ _ _ h => h) (by kernel_rfl) (by kernel_rfl) (fun _ _ => by kernel_rfl) trivial ?_
      simp only [Act.put, nzA, nzB, nzC]
      refine wpAnyH_ready (rs := [19]) (by kernel_rfl) (by simp) (gskp 19 none rfl (by kernel_rfl) (by kernel_rfl) (ex_store (t := 28) (vs := [.pointer (some ⟨S.R0.t, 0, none⟩)]) rfl rfl rfl rfl (by simp [Value.oneCell']) siz28 hC (by simp)) trivial ?_ AllReadyH.nil)
      have hF2 := hF1.trans (Fr.setCells y1 S.P 3 [.pointer (some ⟨S.R0.t, 0, none⟩)]) (fun b hb => .inl hb)
      have hC2 : Holds _ S.P [.pointer (some ⟨S.T1.t, 0, none⟩), .pointer (some ⟨S.T0.t, 0, none⟩), .pointer (some ⟨S.R1.t, 0, none⟩), .pointer (some ⟨S.R0.t, 0, none⟩), .int .i64 S.left] := hC.put 3 [.pointer (some ⟨S.R0.t, 0, none⟩)] (by simp)
      generalize World.setCells y1 _ _ _ = y3 at *
      clear hC hF1
      simp only [Act.put, nzA, nzB, nzC]
      refine wpAnyH_done (by kernel_rfl) ?_ _
      try simp only [Act.put, nzA, nzB, nzC]
      have hB : Fr w1 y3 [S.P] := ((unhide HA).drew.trans hF2 (fun b hb => .inl hb))
      have FIN := hide ((unhide HS).swapped h0 hB hC2)
      clear hB hF2 hC2
      go_wp2
      go_ret
      exact ⟨rfl, S.swap, (unhide FIN).1.mono (Nat.le_succ _), (Went.refl S (unhide HB1)).trans (unhide FIN).2⟩
  · simp only [Act.put, nzA, nzB, nzC]
    refine wpAnyH_ready (rs := [6]) (by kernel_rfl) (by simp) (gval 6 (some 176) rfl (by kernel_rfl) (by kernel_rfl) (ex_load1 26 Tryz.isAgg26 rfl rfl hC rfl) trivial ?_ AllReadyH.nil)
    simp only [Act.put, nzA, nzB, nzC]
    refine gsem 14 (some 184) (.pointer (some ⟨S.P, 0, none⟩)) rfl (by kernel_rfl) (by kernel_rfl) (by kernel_rfl) (fun _ _ _ h => h) (by kernel_rfl) (by kernel_rfl) (fun _ _ => by kernel_rfl) trivial ?_
    simp only [Act.put, nzA, nzB, nzC]
    refine wpAnyH_ready (rs := [15]) (by kernel_rfl) (by simp) (gskp 15 none rfl (by kernel_rfl) (by kernel_rfl) (ex_store (t := 26) (vs := [.pointer (some ⟨S.T1.t, 0, none⟩)]) rfl rfl rfl rfl (by simp [Value.oneCell']) siz26 hC (by simp)) trivial ?_ AllReadyH.nil)
    have hF1 := Fr.setCells w1.drew S.P 0 [.pointer (some ⟨S.T1.t, 0, none⟩)]
    have hC1 : Holds _ S.P [.pointer (some ⟨S.T1.t, 0, none⟩), .pointer (some ⟨S.T1.t, 0, none⟩), .pointer (some ⟨S.R0.t, 0, none⟩), .pointer (some ⟨S.R1.t, 0, none⟩), .int .i64 S.left] := hC.put 0 [.pointer (some ⟨S.T1.t, 0, none⟩)] (by simp)
    generalize World.setCells _ _ _ _ = y1 at *
    clear hC
    have hC := hC1
    clear hC1
    simp only [Act.put, nzA, nzB, nzC]
    refine gsem 18 (some 187) (.pointer (some ⟨S.P, 1, none⟩)) rfl (by kernel_rfl) (by kernel_rfl) (by kernel_rfl) (fun _ _ _ h => h) (by kernel_rfl) (by kernel_rfl) (fun _ _ => by kernel_rfl) trivial ?_
    simp only [Act.put, nzA, nzB, nzC]
    refine wpAnyH_ready (rs := [19]) (by kernel_rfl) (by simp) (gskp 19 none rfl (by kernel_rfl) (by kernel_rfl) (ex_store (t := 26) (vs := [.pointer (some ⟨S.T0.t, 0, none⟩)]) rfl rfl rfl rfl (by simp [Value.oneCell']) siz26 hC (by simp)) trivial ?_ AllReadyH.nil)
    have hF2 := hF1.trans (Fr.setCells y1 S.P 1 [.pointer (some ⟨S.T0.t, 0, none⟩)]) (fun b hb => .inl hb)
    have hC2 : Holds _ S.P [.pointer (some ⟨S.T1.t, 0, none⟩), .pointer (some ⟨S.T0.t, 0, none⟩), .pointer (some ⟨S.R0.t, 0, none⟩), .pointer (some ⟨S.R1.t, 0, none⟩), .int .i64 S.left] := hC.put 1 [.pointer (some ⟨S.T0.t, 0, none⟩)] (by simp)
    generalize World.setCells y1 _ _ _ = y2 at *
    clear hC hF1
    simp only [Act.put, nzA, nzB, nzC]
    refine wpAnyH_done (by kernel_rfl) ?_ _
    try simp only [Act.put, nzA, nzB, nzC]
    have hA : Fr w1 y2 [S.P] := (Fr.refl w1 [S.P]).drew.trans hF2 (fun b hb => .inl hb)
    have HA := hide hA
    have HC2 := hide hC2
    clear hA hF2 hC2
    go_wp2
    refine wp_region_held_drew (P := Tryz.prog) (S := fun _ => True) (by kernel_rfl) trivial (fun hS0 => ?_)
    have hC : Holds y2.drew S.P [.pointer (some ⟨S.T1.t, 0, none⟩), .pointer (some ⟨S.T0.t, 0, none⟩), .pointer (some ⟨S.R0.t, 0, none⟩), .pointer (some ⟨S.R1.t, 0, none⟩), .int .i64 S.left] := (unhide HC2).block rfl
    refine gsem 0 (some 188) (.pointer (some ⟨S.P, 0, none⟩)) rfl (by kernel_rfl) (by kernel_rfl) (by kernel_rfl) (fun _ _ _ h => h) (by kernel_rfl) (by kernel_rfl) (fun _ _ => by kernel_rfl) trivial ?_
    simp only [Act.put, nzA, nzB, nzC]
    refine gsem 1 (some 189) (.pointer (some ⟨S.P, 0, none⟩)) rfl (by kernel_rfl) (by kernel_rfl) (by kernel_rfl) (fun _ _ _ h => h) (by kernel_rfl) (by kernel_rfl) (fun _ _ => by kernel_rfl) trivial ?_
    simp only [Act.put, nzA, nzB, nzC]
    refine gsem 2 (some 190) (.pointer (some ⟨S.P, 0, none⟩)) rfl (by kernel_rfl) (by kernel_rfl) (by kernel_rfl) (fun _ _ _ h => h) (by kernel_rfl) (by kernel_rfl) (fun _ _ => by kernel_rfl) trivial ?_
    simp only [Act.put, nzA, nzB, nzC]
    refine gsem 3 (some 191) (.pointer (some ⟨S.P, 0, none⟩)) rfl (by kernel_rfl) (by kernel_rfl) (by kernel_rfl) (fun _ _ _ h => h) (by kernel_rfl) (by kernel_rfl) (fun _ _ => by kernel_rfl) trivial ?_
    simp only [Act.put, nzA, nzB, nzC]
    refine gsem 4 (some 192) (.pointer (some ⟨S.P, 2, none⟩)) rfl (by kernel_rfl) (by kernel_rfl) (by kernel_rfl) (fun _ _ _ h => h) (by kernel_rfl) (by kernel_rfl) (fun _ _ => by kernel_rfl) trivial ?_
    simp only [Act.put, nzA, nzB, nzC]
    refine gsem 5 (some 193) (.pointer (some ⟨S.P, 3, none⟩)) rfl (by kernel_rfl) (by kernel_rfl) (by kernel_rfl) (fun _ _ _ h => h) (by kernel_rfl) (by kernel_rfl) (fun _ _ => by kernel_rfl) trivial ?_
    simp only [Act.put, nzA, nzB, nzC]
    refine gsem 7 (some 195) (.pointer (some ⟨S.P, 0, none⟩)) rfl (by kernel_rfl) (by kernel_rfl) (by kernel_rfl) (fun _ _ _ h => h) (by kernel_rfl) (by kernel_rfl) (fun _ _ => by kernel_rfl) trivial ?_
    simp only [Act.put, nzA, nzB, nzC]
    refine gsem 8 (some 196) (.pointer (some ⟨S.P, 0, none⟩)) rfl (by kernel_rfl) (by kernel_rfl) (by kernel_rfl) (fun _ _ _ h => h) (by kernel_rfl) (by kernel_rfl) (fun _ _ => by kernel_rfl) trivial ?_
    simp only [Act.put, nzA, nzB, nzC]
    refine gsem 9 (some 197) (.pointer (some ⟨S.P, 2, none⟩)) rfl (by kernel_rfl) (by kernel_rfl) (by kernel_rfl) (fun _ _ _ h => h) (by kernel_rfl) (by kernel_rfl) (fun _ _ => by kernel_rfl) trivial ?_
    simp only [Act.put, nzA, nzB, nzC]
    refine gsem 10 (some 198) (.pointer (some ⟨S.P, 2, none⟩)) rfl (by kernel_rfl) (by kernel_rfl) (by kernel_rfl) (fun _ _ _ h => h) (by kernel_rfl) (by kernel_rfl) (fun _ _ => by kernel_rfl) trivial ?_
    simp only [Act.put, nzA, nzB, nzC]
    refine gsem 12 (some 200) (.pointer (some ⟨S.P, 0, none⟩)) rfl (by kernel_rfl) (by kernel_rfl) (by kernel_rfl) (fun _ _ _ h => h) (by kernel_rfl) (by kernel_rfl) (fun _ _ => by kernel_rfl) trivial ?_
    simp only [Act.put, nzA, nzB, nzC]
    refine gsem 13 (some 201) (.pointer (some ⟨S.P, 2, none⟩)) rfl (by kernel_rfl) (by kernel_rfl) (by kernel_rfl) (fun _ _ _ h => h) (by kernel_rfl) (by kernel_rfl) (fun _ _ => by kernel_rfl) trivial ?_
    simp only [Act.put, nzA, nzB, nzC]
    refine gsem 16 (some 203) (.pointer (some ⟨S.P, 0, none⟩)) rfl (by kernel_rfl) (by kernel_rfl) (by kernel_rfl) (fun _ _ _ h => h) (by kernel_rfl) (by kernel_rfl) (fun _ _ => by kernel_rfl) trivial ?_
    simp only [Act.put, nzA, nzB, nzC]
    refine gsem 17 (some 204) (.pointer (some ⟨S.P, 2, none⟩)) rfl (by kernel_rfl) (by kernel_rfl) (by kernel_rfl) (fun _ _ _ h => h) (by kernel_rfl) (by kernel_rfl) (fun _ _ => by kernel_rfl) trivial ?_
    simp only [Act.put, nzA, nzB, nzC]
    refine wpAnyH_ready (rs := [6, 11]) (by kernel_rfl) (by simp) (gval 6 (some 194) rfl (by kernel_rfl) (by kernel_rfl) (ex_load1 28 Tryz.isAgg28 rfl rfl hC rfl) trivial ?_ (gval 11 (some 199) rfl (by kernel_rfl) (by kernel_rfl) (ex_load1 28 Tryz.isAgg28 rfl rfl hC rfl) trivial ?_ AllReadyH.nil))
    · simp only [Act.put, nzA, nzB, nzC]
      refine wpAnyH_ready (rs := [11]) (by kernel_rfl) (by simp) (gval 11 (some 199) rfl (by kernel_rfl) (by kernel_rfl) (ex_load1 28 Tryz.isAgg28 rfl rfl hC rfl) trivial ?_ AllReadyH.nil)
      simp only [Act.put, nzA, nzB, nzC]
      refine gsem 14 (some 202) (.pointer (some ⟨S.P, 2, none⟩)) rfl (by kernel_rfl) (by kernel_rfl) (by kernel_rfl) (fun _ _ _ h => h) (by kernel_rfl) (by kernel_rfl) (fun _ _ => by kernel_rfl) trivial ?_
      simp only [Act.put, nzA, nzB, nzC]
      refine wpAnyH_ready (rs := [15]) (by kernel_rfl) (by simp) (gskp 15 none rfl (by kernel_rfl) (by kernel_rfl) (ex_store (t := 28) (vs := [.pointer (some ⟨S.R1.t, 0, none⟩)]) rfl rfl rfl rfl (by simp [Value.oneCell']) siz28 hC (by simp)) trivial ?_ AllReadyH.nil)
      have hF1 := Fr.setCells y2.drew S.P 2 [.pointer (some ⟨S.R1.t, 0, none⟩)]
      have hC1 : Holds _ S.P [.pointer (some ⟨S.T1.t, 0, none⟩), .pointer (some ⟨S.T0.t, 0, none⟩), .pointer (some ⟨S.R1.t, 0, none⟩), .pointer (some ⟨S.R1.t, 0, none⟩), .int .i64 S.left] := hC.put 2 [.pointer (some ⟨S.R1.t, 0, none⟩)] (by simp)
      generalize World.setCells _ _ _ _ = y1 at *
      clear hC
      have hC := hC1
      clear hC1
      simp only [Act.put, nzA, nzB, nzC]
      refine gsem 18 (some 205) (.pointer (some ⟨S.P, 3, none⟩)) rfl (by kernel_rfl) (by kernel_rfl) (by kernel_rfl) (fun _ _ _ h => h) (by kernel_rfl) (by kernel_rfl) (fun _ _ => by kernel_rfl) trivial ?_
      simp only [Act.put, nzA, nzB, nzC]
      refine wpAnyH_ready (rs := [19]) (by kernel_rfl) (by simp) (gskp 19 none rfl (by kernel_rfl) (by kernel_rfl) (ex_store (t := 28) (vs := [.pointer (some ⟨S.R0.t, 0, none⟩)]) rfl rfl rfl rfl (by simp [Value.oneCell']) siz28 hC (by simp)) trivial ?_ AllReadyH.nil)
      have hF2 := hF1.trans (Fr.setCells y1 S.P 3 [.pointer (some ⟨S.R0.t, 0, none⟩)]) (fun b hb => .inl hb)
      have hC2 : Holds _ S.P [.pointer (some ⟨S.T1.t, 0, none⟩), .pointer (some ⟨S.T0.t, 0, none⟩), .pointer (some ⟨S.R1.t, 0, none⟩), .pointer (some ⟨S.R0.t, 0, none⟩), .int .i64 S.left] := hC.put 3 [.pointer (some ⟨S.R0.t, 0, none⟩)] (by simp)
      generalize World.setCells y1 _ _ _ = y3 at *
      clear hC hF1
      simp only [Act.put, nzA, nzB, nzC]
      refine wpAnyH_done (by kernel_rfl) ?_ _
      try simp only [Act.put, nzA, nzB, nzC]
      have hB : Fr w1 y3 [S.P] := ((unhide HA).drew.trans hF2 (fun b hb => .inl hb))
      have FIN := hide ((unhide HS).swapped h0 hB hC2)
      clear hB hF2 hC2
      go_wp2
      go_ret
      exact ⟨rfl, S.swap, (unhide FIN).1.mono (Nat.le_succ _), (Went.refl S (unhide HB1)).trans (unhide FIN).2⟩
    · simp only [Act.put, nzA, nzB, nzC]
      refine wpAnyH_ready (rs := [6]) (by kernel_rfl) (by simp) (gval 6 (some 194) rfl (by kernel_rfl) (by kernel_rfl) (ex_load1 28 Tryz.isAgg28 rfl rfl hC rfl) trivial ?_ AllReadyH.nil)
      simp only [Act.put, nzA, nzB, nzC]
      refine gsem 14 (some 202) (.pointer (some ⟨S.P, 2, none⟩)) rfl (by kernel_rfl) (by kernel_rfl) (by kernel_rfl) (fun _ _ _ h => h) (by kernel_rfl) (by kernel_rfl) (fun _ _ => by kernel_rfl) trivial ?_
      simp only [Act.put, nzA, nzB, nzC]
      refine wpAnyH_ready (rs := [15]) (by kernel_rfl) (by simp) (gskp 15 none rfl (by kernel_rfl) (by kernel_rfl) (ex_store (t := 28) (vs := [.pointer (some ⟨S.R1.t, 0, none⟩)]) rfl rfl rfl rfl (by simp [Value.oneCell']) siz28 hC (by simp)) trivial ?_ AllReadyH.nil)
      have hF1 := Fr.setCells y2.drew S.P 2 [.pointer (some ⟨S.R1.t, 0, none⟩)]
      have hC1 : Holds _ S.P [.pointer (some ⟨S.T1.t, 0, none⟩), .pointer (some ⟨S.T0.t, 0, none⟩), .pointer (some ⟨S.R1.t, 0, none⟩), .pointer (some ⟨S.R1.t, 0, none⟩), .int .i64 S.left] := hC.put 2 [.pointer (some ⟨S.R1.t, 0, none⟩)] (by simp)
      generalize World.setCells _ _ _ _ = y1 at *
      clear hC
      have hC := hC1
      clear hC1
      simp only [Act.put, nzA, nzB, nzC]
      refine gsem 18 (some 205) (.pointer (some ⟨S.P, 3, none⟩)) rfl (by kernel_rfl) (by kernel_rfl) (by kernel_rfl) (fun _ _ _ h => h) (by kernel_rfl) (by kernel_rfl) (fun _ _ => by kernel_rfl) trivial ?_
      simp only [Act.put, nzA, nzB, nzC]
      refine wpAnyH_ready (rs := [19]) (by kernel_rfl) (by simp) (gskp 19 none rfl (by kernel_rfl) (by kernel_rfl) (ex_store (t := 28) (vs := [.pointer (some ⟨S.R0.t, 0, none⟩)]) rfl rfl rfl rfl (by simp [Value.oneCell']) siz28 hC (by simp)) trivial ?_ AllReadyH.nil)
      have hF2 := hF1.trans (Fr.setCells y1 S.P 3 [.pointer (some ⟨S.R0.t, 0, none⟩)]) (fun b hb => .inl hb)
      have hC2 : Holds _ S.P [.pointer (some ⟨S.T1.t, 0, none⟩), .pointer (some ⟨S.T0.t, 0, none⟩), .pointer (some ⟨S.R1.t, 0, none⟩), .pointer (some ⟨S.R0.t, 0, none⟩), .int .i64 S.left] := hC.put 3 [.pointer (some ⟨S.R0.t, 0, none⟩)] (by simp)
      generalize World.setCells y1 _ _ _ = y3 at *
      clear hC hF1
      simp only [Act.put, nzA, nzB, nzC]
      refine wpAnyH_done (by kernel_rfl) ?_ _
      try simp only [Act.put, nzA, nzB, nzC]
      have hB : Fr w1 y3 [S.P] := ((unhide HA).drew.trans hF2 (fun b hb => .inl hb))
      have FIN := hide ((unhide HS).swapped h0 hB hC2)
      clear hB hF2 hC2
      go_wp2
      go_ret
      exact ⟨rfl, S.swap, (unhide FIN).1.mono (Nat.le_succ _), (Went.refl S (unhide HB1)).trans (unhide FIN).2⟩
