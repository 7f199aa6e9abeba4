import Derived.Test.YtclahchmdcgdhaaMathe
import Derived.Test.YtclahchmdcgdhaaFg
import Derived.Below
import Derived.Laws.BytesArg
import Derived.Deep.AppendLies
import Derived.LoopTactic
import Derived.RangeFuncBox
namespace Go.Proofs.Ytclahchmdcgdhaa
open Go.RowKit
def u64v (u : Nat) : Value := .int .u64 (u : Nat)
theorem info22 : (Try.prog.info? 22).map (fun i => (i.zero, i.size, i.bytes)) = some (some (.int .u64 0), 1, 8) := by kernel_rfl
/-- v is a slice whose elements are the numbers l. -/
def ReadsU (w : World) (v : Value) (l : List Nat) : Prop :=
  ∃ A cap, v = .slice A l.length cap ∧ (∀ i, i < l.length → ∃ b off, A = some ⟨b, off, none⟩ ∧ b < w.heap.size ∧ w.cell? ⟨b, off + i, none⟩ = some (.int .u64 (l.getD i 0 : Nat)))
theorem news_cells (w : World) (cs : Array Value) (t : TypeId) : ∀ j u, cs.toList[j]? = some u → (w.alloc (.cells cs t)).cell? ((⟨w.heap.size, 0, none⟩ : Addr).add j) = some u :=
  World.news_of_block (World.alloc_heap_new w _)
theorem below_app' {B n size : Nat} {w w' : World} {v : Value} {e : TypeId} {xs : List Value} {tmp : Obj} (hown : w.ownsRow B e size v n xs) (hB : B ≤ w.heap.size) (hgrow : (w.alloc tmp).grownBy w' v.ownBlock) : Below B w w' := by
  refine ((Below.refl B w).alloc hB tmp).grown hgrow (by simp; omega) fun j ej => ?_
  rcases hown.2 with ⟨rfl, _⟩ | ⟨g, cap, cur, rfl, hb, _, _⟩
  · simp [Value.ownBlock] at ej
  · obtain rfl : g = j := by simpa [Value.ownBlock] using ej
    exact hb
theorem drop_getD (l : List Nat) (k : Nat) (h : k < l.length) : l.drop k = l.getD k 0 :: l.drop (k + 1) := by
  rw [List.drop_eq_getElem_cons h, List.getD_eq_getElem?_getD, List.getElem?_eq_getElem h]; rfl
set_option maxHeartbeats 2000000 in
set_option maxRecDepth 100000 in
theorem times_any (v : Value) (l : List Nat) (b : Nat) (hl : ∀ x ∈ l, x < 1000000000) (hlen : l.length ≤ 100000) (hb : b < 1000000000) (w : World) (hR : ReadsU w v l) :
    Calls Try.prog 62 #[v, .int .u64 (b : Int)] w fun e w' => ∃ v', e = .returned v' ∧ w'.ownsRow w.heap.size 22 1 v' (tms b l 0).length ((tms b l 0).map u64v) ∧ Below w.heap.size w w' := by
  obtain ⟨i0, hi, hz0, hz1, hz2⟩ := info_parts info22
  obtain ⟨A, cap, rfl, hA⟩ := hR
  have HA : Hid _ := ⟨hA⟩; clear hA
  have hl' : ∀ k, k < l.length → l.getD k 0 < 1000000000 := fun k hk => by
    rw [List.getD_eq_getElem?_getD, List.getElem?_eq_getElem hk]; exact hl _ (List.getElem_mem hk)
  have HL : Hid _ := ⟨hl'⟩; clear hl'
  have htl := tms_len b hb l hl 0 (by decide)
  generalize hT : tms b l 0 = T at *
  have HT : Hid _ := ⟨hT⟩; clear hT hl
  go_enter Try.func62, Try.ntmps62
  go_wp2
  go_loopw [5, 6, 7] (fun o cv i wr => ∃ (k c : Nat) (vo : Value) (ds : List Nat), o = vo ∧ cv = .int .u64 (c : Int) ∧ i = .int .i64 (k : Nat) ∧ k ≤ l.length ∧ c < 1000000000 ∧ T = ds ++ tms b (l.drop k) c ∧ ds.length ≤ k ∧ wr.ownsRow w.heap.size 22 1 vo ds.length (ds.map u64v) ∧ Below w.heap.size w wr) (fun _ _ i _ => l.length - (intOf i).toNat)
  case atStart => exact ⟨0, 0, _, [], rfl, rfl, rfl, by omega, by omega, by simp [HT.it], by simp, World.ownsRow_nil _ _ _ _, Below.refl _ _⟩
  case round =>
    obtain ⟨k, c, vo, ds, rfl, rfl, rfl, hk, hc, hrw, hn, hown, hB⟩ := hrel
    have HRW : Hid _ := ⟨hrw⟩; clear hrw
    by_cases hlt : k < l.length
    · obtain ⟨g, off, rfl, hblt, hcell⟩ := HA.it k hlt
      have hcw : wr.cell? ⟨g, off + k, none⟩ = some (.int .u64 (l.getD k 0 : Nat)) := (hB.cell (p := ⟨g, off + k, none⟩) hblt).trans hcell
      have ha := HL.it k hlt
      have HDR : Hid _ := ⟨drop_getD l k hlt⟩
      generalize l.getD k 0 = a at *
      have hk1 : (k : Int) < (l.length : Int) := by omega
      have hab : a * b ≤ 999999999 * 999999999 := Nat.mul_le_mul (by omega) (by omega)
      have hpi : (a : Int) * (b : Int) = ((a * b : Nat) : Int) := by simp
      have HP : Hid (tms b (l.drop k) c = (a * b + c) % 1000000000 :: tms b (l.drop (k + 1)) ((a * b + c) / 1000000000)) := ⟨by rw [HDR.it]; rfl⟩
      generalize a * b = p at *
      go_wp2_with (at_builtin; refine wpList_append_own _ rfl _ _ 69 rfl w.heap.size 22 i0 (.int .u64 0) 1 8 Try.underlying69 hi hz0 hz1 hz2 rfl (by decide) _ _ _ rfl (hown.alloc _) ⟨wr.heap.size, 0, none⟩ 1 1 [_] rfl rfl (news_cells _ #[_] 22) (by simp [Value.oneCell']) (by unfold maxLen; omega) (by omega) (by have := hB.size; simp; omega) ?_; intro v' w1 hown' hgrow _)
      go_roundw
      case rel =>
        refine ⟨k + 1, (p + c) / 1000000000, v', ds ++ [(p + c) % 1000000000], rfl, by go_num, by go_num, by omega, by omega, ?_, by simp; omega, ?_, hB.trans (below_app' hown hB.size hgrow)⟩
        · rw [HRW.it, HP.it]; simp
        · simpa [u64v] using hown'
      case measure => simp [intOf]; omega
    · have hke : k = l.length := by omega
      subst hke
      have HC : Hid (T = ds ++ cars c) := ⟨by rw [HRW.it, List.drop_length]; rfl⟩
      go_wp2
      go_loopw [5, 6] (fun o cv wq => ∃ (c : Nat) (vo : Value) (ds : List Nat), o = vo ∧ cv = .int .u64 (c : Int) ∧ c < 1000000000 ∧ T = ds ++ cars c ∧ wq.ownsRow w.heap.size 22 1 vo ds.length (ds.map u64v) ∧ Below w.heap.size w wq) (fun _ cv _ => (intOf cv).toNat)
      case atStart => exact ⟨c, _, ds, rfl, rfl, hc, HC.it, hown, hB⟩
      case round =>
        clear hB hc hn
        obtain ⟨c, vo, ds, rfl, rfl, hc, hrw, hown, hB⟩ := hrel
        by_cases h0 : 0 < c
        · rw [cars_pos c h0] at hrw
          have hle : ds.length + 1 ≤ T.length := by rw [hrw]; simp
          have HRW : Hid _ := ⟨hrw⟩; clear hrw
          have h0' : (0 : Int) < (c : Int) := by omega
          go_wp2_with (at_builtin; refine wpList_append_own _ rfl _ _ 69 rfl w.heap.size 22 i0 (.int .u64 0) 1 8 Try.underlying69 hi hz0 hz1 hz2 rfl (by decide) _ _ _ rfl (hown.alloc _) ⟨_, 0, none⟩ 1 1 [_] rfl rfl (news_cells _ #[_] 22) (by simp [Value.oneCell']) (by unfold maxLen; omega) (by omega) (by have := hB.size; simp; omega) ?_; intro v' w1 hown' hgrow _)
          go_roundw
          case rel =>
            refine ⟨c / 1000000000, v', ds ++ [c % 1000000000], rfl, by go_num, by omega, ?_, ?_, hB.trans (below_app' hown hB.size hgrow)⟩
            · rw [HRW.it]; simp
            · simpa [u64v] using hown'
          case measure => simp [intOf]; omega
        · have hc0 : c = 0 := by omega
          subst hc0
          rw [cars_zero, List.append_nil] at hrw
          subst hrw
          go_wp2
          go_ret
          exact ⟨_, rfl, hown, hB⟩
end Go.Proofs.Ytclahchmdcgdhaa
