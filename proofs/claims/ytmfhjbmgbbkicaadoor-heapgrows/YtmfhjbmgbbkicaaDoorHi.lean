import Derived.Test.YtmfhjbmgbbkicaaDoorHg
import Derived.Test.YtmfhjbmgbbkicaaDoorHh
namespace Go.Proofs.YtmfhjbmgbbkicaaDoor
open Go Go.Proofs Go.Maps Go.RowKit FM
set_option linter.unusedSimpArgs false
set_option linter.unusedVariables false
set_option maxHeartbeats 1000000
theorem HP.Is.add {w X Y : World} {n : Nat} {h : HP} {o : OB} {gv : Value} (H : h.Is w n) (hX : Fr w X []) (hO : o.Is X) (hob : ∀ b ∈ o.blocks, w.heap.size ≤ b) (hown : Y.ownsRow n 55 1 gv (h.l.length + 1) (h.l.map OB.ptr ++ [o.ptr])) (hg : X.grownBy Y h.gv.ownBlock) (hfr : Fresh X h.gv gv) (hlen : (h.l.length : Int) < h.cap) :
    HP.Is (Y.setCells h.b 0 [gv]) n ⟨h.b, gv, h.l ++ [o], h.cap, h.fuel, h.depth⟩ ∧ Fr w (Y.setCells h.b 0 [gv]) (h.b :: h.gv.ownBlock.toList) ∧ ∀ g, gv.ownBlock = some g → h.gv.ownBlock = some g ∨ w.heap.size ≤ g := by
  have HX := H.fr hX
  have hbw : h.b < w.heap.size := H.lt _ (by simp [HP.blocks])
  have hbX : h.b < X.heap.size := Nat.lt_of_lt_of_le hbw hX.size
  have hgY : Fr X Y h.gv.ownBlock.toList := Fr.grown hg
  have hYX : Y.heap[h.b]? = X.heap[h.b]? := hgY.block _ hbX (fun hm => H.sep.2.1 (Option.mem_toList.1 hm))
  have hblk : Holds Y h.b (hcs h) := HX.blk.block hYX
  have hnb : ∀ g, gv.ownBlock = some g → g ≠ h.b ∧ (h.gv.ownBlock = some g ∨ g = X.heap.size) := fun g hg2 => by
    rcases hfr with h3 | h3
    · rw [h3] at hg2
      exact ⟨fun e => H.sep.2.1 (e ▸ hg2), .inl hg2⟩
    · rw [h3] at hg2
      have e : X.heap.size = g := Option.some.inj hg2
      exact ⟨by omega, .inr e.symm⟩
  have hkeep : ∀ b, b < X.heap.size → b ≠ h.b → h.gv.ownBlock ≠ some b → (Y.setCells h.b 0 [gv]).heap[b]? = X.heap[b]? := fun b h1 h2 h3 =>
    (heap_setCells h.b [gv] 0 Y b h2).trans (hgY.block b h1 (fun hm => h3 (Option.mem_toList.1 hm)))
  have hmem : ∀ b, b ∈ h.obs → b < w.heap.size := fun b hb => H.lt b (by simp [HP.blocks, hb])
  refine ⟨⟨?_, ?_, ?_, H.base, ⟨?_, ?_, ?_⟩, ⟨?_, H.lim.2⟩⟩, ?_, ?_⟩
  · have := hblk.put 0 [gv] (by simp [hcs])
    simpa [cput, hcs] using this
  · have := own_blk (w' := Y.setCells h.b 0 [gv]) hown (fun g hg2 => heap_setCells h.b [gv] 0 Y g (hnb g hg2).1)
    simpa using this
  · intro q hq
    rcases List.mem_append.1 hq with hq | hq
    · refine (HX.all q hq).block (fun b hb => ?_)
      have hm : b ∈ h.obs := List.mem_flatMap.2 ⟨q, hq, hb⟩
      exact hkeep b (Nat.lt_of_lt_of_le (hmem b hm) hX.size) (fun e => H.sep.1 (e ▸ hm)) (fun e => H.sep.2.2 b e hm)
    · obtain rfl : q = o := by simpa using hq
      refine hO.block (fun b hb => ?_)
      have h1 := hob b hb
      refine hkeep b (hO.lt b hb) (by omega) (fun e => ?_)
      have := (World.ownsRow.lt H.own b e).2
      omega
  · intro hm
    simp only [HP.obs, List.flatMap_append, List.mem_append] at hm
    rcases hm with hm | hm
    · exact H.sep.1 hm
    · have := hob h.b (by simpa using hm)
      omega
  · exact fun e => (hnb _ e).1 rfl
  · intro g hg2 hm
    simp only [HP.obs, List.flatMap_append, List.mem_append] at hm
    rcases (hnb g hg2).2 with h1 | h1
    · rcases hm with hm | hm
      · exact H.sep.2.2 g h1 hm
      · have h2 := hob g (by simpa using hm)
        have := (World.ownsRow.lt H.own g h1).2
        omega
    · rcases hm with hm | hm
      · have := hmem g hm
        have := hX.size
        omega
      · have := hO.lt g (by simpa using hm)
        omega
  · simp
    omega
  · refine (hX.mono (by simp)).trans (E' := h.b :: h.gv.ownBlock.toList) ?_ (fun b hb => .inl hb)
    refine (hgY.mono (fun b hb => .inl (List.mem_cons_of_mem _ hb))).trans (Fr.setCells Y h.b 0 [gv]) (fun b hb => .inl ?_)
    obtain rfl : b = h.b := by simpa using hb
    simp
  · intro g hg2
    rcases (hnb g hg2).2 with h1 | h1
    · exact .inl h1
    · have := hX.size
      exact .inr (by omega)
end Go.Proofs.YtmfhjbmgbbkicaaDoor
