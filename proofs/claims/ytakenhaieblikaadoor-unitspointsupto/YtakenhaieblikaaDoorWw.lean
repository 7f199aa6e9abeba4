import Derived.Test.YtakenhaieblikaaDoorWv
import Derived.Test.YtakenhaieblikaaDoorWp
namespace Go.Proofs.YtakenhaieblikaaDoor
open Go.RowKit Go.Shelf

def sA : ByteArray := ⟨#[97, 240, 159, 152, 128]⟩
def sT : ByteArray := ⟨#[97, 237, 160, 189]⟩
def sL : ByteArray := ⟨#[237, 184, 128]⟩
def sV : ByteArray := ⟨#[237, 160, 189, 237, 184, 128]⟩
theorem of_sA : M.ofL [97, 55357, 56832] = nums sA := by decide +kernel
theorem len_sA : (unS sA).length = 3 ∧ erS sA = 0 := by decide +kernel
theorem sl_sA : slL sA 0 2 = nums sT ∧ slE sA 0 2 = 0 := by decide +kernel
theorem cat_sT : catL sT sL = nums sA ∧ catE sT sL = 0 := by decide +kernel
theorem v_sV : M.valid false (nums sV) = false := by decide +kernel

set_option maxHeartbeats 2000000 in
set_option maxRecDepth 100000 in
theorem awake_any (w : World) (hT : Lib.Utf8Tabs 0 1 w) :
    Calls Tryd.prog 36 #[] w fun e w' => e = .returned (.bool true) ∧ Below w.heap.size w w' := by
  have HT := hide hT; clear hT
  go_enter Tryd.func36, Tryd.ntmps36
  go_wp2_with fail
  have hBa : Below w.heap.size w (w.alloc (Obj.cells #[Value.int IntKind.u16 97, Value.int IntKind.u16 55357, Value.int IntKind.u16 56832] 38)) := (Below.refl _ w).alloc (Nat.le_refl _) _
  refine (of_any _ [97, 55357, 56832] (by decide) (by decide) _ (.inr ⟨w.heap.size, 0, 3, rfl, by simp, fun i hi => ?_⟩)).mono ?_
  · have h3 : i = 0 ∨ i = 1 ∨ i = 2 := by simp at hi; omega
    rcases h3 with rfl | rfl | rfl
    · exact news_cells w #[.int .u16 97, .int .u16 55357, .int .u16 56832] 38 0 _ rfl
    · exact news_cells w #[.int .u16 97, .int .u16 55357, .int .u16 56832] 38 1 _ rfl
    · exact news_cells w #[.int .u16 97, .int .u16 55357, .int .u16 56832] 38 2 _ rfl
  rintro e w1 ⟨s, rfl, hs, hb1⟩
  have hB1 := hBa.trans (hb1.mono hBa.size)
  obtain rfl : s = sA := nums_inj (hs.trans of_sA)
  clear hs
  go_wp2_with fail
  refine (len_any sA (by decide) _ (tabs_below (unhide HT) hB1)).mono ?_
  rw [len_sA.1, len_sA.2]
  rintro e w2 ⟨rfl, hb2⟩
  have hB2 := hB1.trans (hb2.mono hB1.size)
  go_wp2_with fail
  refine (slice_any sA 0 2 (by decide) _ (tabs_below (unhide HT) hB2)).mono ?_
  rw [sl_sA.1, sl_sA.2]
  rintro e w3 ⟨t, rfl, ht, hb3⟩
  have hB3 := hB2.trans (hb3.mono hB2.size)
  obtain rfl : t = sT := nums_inj ht
  clear ht
  go_wp2_with fail
  refine (concat_any sT sL (by decide) (by decide) _ (tabs_below (unhide HT) hB3)).mono ?_
  rw [cat_sT.1, cat_sT.2]
  rintro e w4 ⟨u, rfl, hu, hb4⟩
  have hB4 := hB3.trans (hb4.mono hB3.size)
  obtain rfl : u = sA := nums_inj hu
  clear hu
  have hA : sA.toList = [97, 240, 159, 152, 128] := by rw [Lib.toList_data]; rfl
  have hA' : (sA.toList == [97, 240, 159, 152, 128]) = true := by rw [hA]; decide
  have hTl : sT.toList = [97, 237, 160, 189] := by rw [Lib.toList_data]; rfl
  have hTl' : (sT.toList == [97, 237, 160, 189]) = true := by rw [hTl]; decide
  go_wp2_with fail
  refine (valid_any sV _ (tabs_below (unhide HT) hB4)).mono ?_
  rw [v_sV]
  rintro e w5 ⟨rfl, hb5⟩
  have hB5 := hB4.trans (hb5.mono hB4.size)
  go_wp2
  go_ret
  exact ⟨rfl, hB5⟩
end Go.Proofs.YtakenhaieblikaaDoor
