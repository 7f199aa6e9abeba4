import Derived.RangeFuncNested
import Derived.RangeFuncBound
import Derived.RangeFuncCalls
import Derived.RangeFuncLeaves
import Derived.RangeFuncBox
import Derived.Shelf.Abstract
import Derived.Shelf.RegionOpen
import Derived.WalkKit
import Derived.OwnWalkIn
import Derived.TacticsInMore
import Derived.LoopNIn
import Derived.LoopIn
import Derived.Maps.AppendAt
import Derived.Test.YtkpfikeggleenaaGreatDoorWc
namespace Go.Proofs.YtkpfikeggleenaaGreatDoor
open Go.RowKit Go.Shelf
attribute [local go_sem] Oper.semAt_some

/-- a code point; a code point and where it begins -/
abbrev CP := { c : Nat // c ≤ 1114111 }
abbrev PT := { x : Nat × Nat // x.2 ≤ 1114111 }
def wid (c : Nat) : Nat := if 65536 ≤ c then 2 else 1
def pts : Nat → List CP → List PT
  | _, [] => []
  | k, c :: r => ⟨(k, c.1), c.2⟩ :: pts (k + wid c.1) r
def encs (x : PT) : Array Value := #[.int .i64 (x.1.1 : Nat), .int .i32 (x.1.2 : Nat)]
def bytes (cs : List CP) : List Nat := (cs.map (·.1)).flatMap M.E

theorem tabs_szW {w : World} (h : Lib.Utf8Tabs 3 4 w) : 5 ≤ w.heap.size := by
  have := (h.2 0 (by omega)).1
  rcases Nat.lt_or_ge 4 w.heap.size with h' | h'
  · omega
  · simp [World.cell?, Array.getElem?_eq_none h'] at this
theorem tabs_belowB {B : Nat} {w w' : World} (h : Lib.Utf8Tabs 3 4 w) (hB : 5 ≤ B) (hb : Below B w w') : Lib.Utf8Tabs 3 4 w' :=
  ⟨fun c hc => (hb.cell (p := ⟨3, c, none⟩) (by show 3 < B; omega)).trans (h.1 c hc), fun i hi => ⟨(hb.cell (p := ⟨4, 2 * i, none⟩) (by show 4 < B; omega)).trans (h.2 i hi).1, (hb.cell (p := ⟨4, 2 * i + 1, none⟩) (by show 4 < B; omega)).trans (h.2 i hi).2⟩⟩
theorem grown_of_below {w w' : World} (h : Below w.heap.size w w') : w.grownBy w' none := ⟨h.os, h.tape, h.output, h.size, fun k hk _ => h.block k hk⟩

theorem isEmpty_of_nil {u : ByteArray} (h : nums u = []) : u.toList.isEmpty = true := by
  unfold nums at h
  rw [List.map_eq_nil_iff] at h
  simp [Lib.toList_data, h]
theorem isEmpty_of_size {u : ByteArray} (h : 0 < u.size) : u.toList.isEmpty = false := by
  cases hE : u.toList.isEmpty with
  | false => rfl
  | true =>
    have e : u.data.toList = [] := by simpa [Lib.toList_data] using hE
    have : u.size = 0 := by rw [ByteArray.size, ← Array.length_toList, e]; rfl
    omega
theorem wid_le (c : Nat) : wid c ≤ (M.E c).length := by
  unfold wid M.E; repeat' split
  all_goals (simp; try omega)
theorem width_nat (c : Nat) (w : World) : Calls Tryz.prog 91 #[.int .i32 (c : Nat)] w fun e w' => e = .returned (.int .i64 (wid c : Nat)) ∧ w' = w := by
  refine (width_any (c : Int) w).mono ?_
  rintro e w' ⟨rfl, rfl⟩
  refine ⟨ret_int ?_, rfl⟩
  unfold wid
  by_cases h : 65536 ≤ c
  · rw [if_pos (by omega), if_pos h]; rfl
  · rw [if_neg (by omega), if_neg h]; rfl
set_option maxRecDepth 100000 in
set_option maxHeartbeats 1000000 in
theorem walk1_in (n : Nat) (hn : 1 ≤ n) (l Bn n₀ : Nat) (s : ByteArray) (cs : List CP) (hs : nums s = bytes cs) (hsz : s.size ≤ 4611686018427387904) (J Jx : List PT → World → Prop) (hn2 : 5 ≤ n₀)
    (W : World) (hAb : AbidesFrom W.heap.size J)
    (hY : ∀ pre x W, J pre W → pre.length < (pts 0 cs).length → YieldAt Fence.wide (n - 1) Tryz.prog l (encs x) W fun e W' =>
      (e = .returned (.bool true) ∧ J (pre ++ [x]) W' ∧ Below n₀ W W') ∨ (e = .returned (.bool false) ∧ Jx (pre ++ [x]) W'))
    (hBn : W.cell? ⟨Bn, 0, none⟩ = some (.string s)) (hT : Lib.Utf8Tabs 3 4 W) (h0 : J [] W) (hn₀ : n₀ ≤ W.heap.size) :
    CallsIn Fence.wide n Tryz.prog 99 #[.func (.yield l) #[] #[], .pointer (some ⟨Bn, 0, none⟩)] W fun e W' => (∃ v, e = .returned v) ∧
      ((∃ ys, ys = pts 0 cs ∧ J ys W') ∨ (∃ pre, pre <+: pts 0 cs ∧ Jx pre W')) := by
  refine callsIn_of_wp Tryz.func99 rfl trivial ?_ rfl
  simp only [Tryz.ntmps99, List.size_toArray, List.length_cons, List.length_nil, Nat.reduceAdd, Nat.reduceSub, Array.replicate_succ, Array.replicate_zero, List.push_toArray, List.append_toArray, List.nil_append, List.cons_append]
  gi_wp2
  gi_loopw [3, 4] (fun a t wr => ∃ (pre : List PT) (k : Nat) (rest : List CP) (u : ByteArray), a = .int .i64 (k : Nat) ∧ t = .string u ∧ nums u = bytes rest ∧ pts 0 cs = pre ++ pts k rest ∧ k + u.size ≤ s.size ∧ J pre wr ∧ W.heap.size ≤ wr.heap.size ∧ Lib.Utf8Tabs 3 4 wr ∧ n₀ ≤ wr.heap.size)
    (fun _ t _ => strLen t)
  case atStart =>
    exact ⟨[], 0, cs, s, rfl, rfl, hs, rfl, by omega, h0, Nat.le_refl _, hT, hn₀⟩
  case round =>
    obtain ⟨pre, k, rest, u, rfl, rfl, hu, hx, hk, hJs, hWr, hTr, hnr⟩ := hrel
    have HU := hide hu; clear hu
    have HX := hide hx; clear hx
    cases rest with
    | nil =>
      have hE : u.toList.isEmpty = true := isEmpty_of_nil (unhide HU)
      gi_wp2
      go_end0
      exact ⟨⟨_, rfl⟩, .inl ⟨pre, by rw [unhide HX]; simp [pts], hJs⟩⟩
    | cons c rest =>
      have hlen := M.E_len c.1
      have hsize : u.size = (M.E c.1).length + (bytes rest).length := by
        rw [← nums_len, unhide HU]; simp [bytes]
      have hE : u.toList.isEmpty = false := isEmpty_of_size (by omega)
      have hdec : M.dec (nums u) = (c.1, (M.E c.1).length) := by
        rw [unhide HU]; simp only [bytes, List.map_cons, List.flatMap_cons]; exact M.dec_E c.1 _ c.2
      have hdc := decode_any u wr hTr
      rw [hdec] at hdc
      have hwid : wid c.1 ≤ (M.E c.1).length := wid_le c.1
      have hdrop : (nums u).drop (M.E c.1).length = bytes rest := by
        rw [unhide HU]; simp only [bytes, List.map_cons, List.flatMap_cons, List.drop_left]
      clear hdec
      have HDr := hide hdrop; clear hdrop
      generalize (M.E c.1).length = m at *
      dsimp only at hdc
      have hm1 : (m : Int) ≤ (u.size : Int) := by omega
      clear hsize
      have HD := hide hdc; clear hdc
      have HY := hide hY; clear hY
      gi_wp2_with fail
      refine ⟨trivial, (callsIn_wide.2 (unhide HD)).mono ?_⟩
      rintro e w1 ⟨rfl, hb⟩
      have hJ1 := hAb pre wr w1 none hJs (grown_of_below hb) (fun r e => by cases e)
      obtain ⟨fn, tmps, assign, body, hy, hR⟩ := (unhide HY) pre ⟨(k, c.1), c.2⟩ w1 hJ1 (by rw [unhide HX]; simp [pts])
      simp only [encs] at hy
      have HHR := hide hR; clear hR
      have hwb : wid c.1 ≤ 2 := by unfold wid; split <;> omega
      have hwp : 1 ≤ wid c.1 := by unfold wid; split <;> omega
      generalize hg : wid c.1 = wd at *
      have HG := hide hg; clear hg
      gi_wp2_with fail
      refine (unhide HHR).mono ?_
      rintro e W3 (⟨rfl, hJ3, hk3⟩ | ⟨rfl, hJx3⟩)
      · gi_wp2_with fail
        refine ⟨trivial, (callsIn_wide.2 (width_nat c.1 _)).mono ?_⟩
        rintro e w4 ⟨rfl, rfl⟩
        rw [unhide HG]
        gi_wp2
        go_roundw
        case rel =>
          refine ⟨pre ++ [⟨(k, c.1), c.2⟩], k + wd, rest, u.extract m u.size, by simp, rfl, by rw [nums_extract]; exact unhide HDr, ?_, ?_, hJ3, ?_, ?_, ?_⟩
          · rw [unhide HX]; simp [pts, unhide HG]
          · rw [size_extract]; omega
          · have := hb.size; have := hk3.size; omega
          · exact tabs_belowB (tabs_below hTr hb) hn2 hk3
          · have := hb.size; have := hk3.size; omega
        case measure => simp only [strLen]; rw [size_extract]; omega
      · gi_wp2
        refine bodyPost_ret (results_none rfl _ _ _) rfl ?_
        exact ⟨⟨_, rfl⟩, .inr ⟨pre ++ [⟨(k, c.1), c.2⟩], ⟨pts (k + wid c.1) rest, by rw [unhide HX]; simp [pts]⟩, hJx3⟩⟩

theorem walk_any (s : ByteArray) (w : World) :
    Calls Tryz.prog 89 #[.string s] w fun e w' => e = .returned (.func (.func 99) #[] #[.pointer (some ⟨w.heap.size, 0, none⟩)]) ∧ w' = w.alloc (.cells #[.string s] 9) := by
  go_enter Tryz.func89, Tryz.ntmps89
  go_wp2
  go_ret
  exact ⟨rfl, rfl⟩

theorem walk_stops (n : Nat) (hn : 1 ≤ n) (Bn n₀ : Nat) (s : ByteArray) (cs : List CP) (hs : nums s = bytes cs) (hsz : s.size ≤ 4611686018427387904) (w : World) (hBn : Bn < w.heap.size) (hn2 : 5 ≤ n₀) (hn₀ : n₀ ≤ w.heap.size)
    (hc : w.cell? ⟨Bn, 0, none⟩ = some (.string s)) (hT : Lib.Utf8Tabs 3 4 w) :
    SeqStopsK Fence.wide n Tryz.prog 99 #[.pointer (some ⟨Bn, 0, none⟩)] encs (Below n₀) (fun ys => ys = pts 0 cs) (fun pre => pre <+: pts 0 cs) (pts 0 cs).length w := fun l J Jx W hW hAb _ hY h0 =>
  walk1_in n hn l Bn n₀ s cs hs hsz J Jx hn2 W hAb hY ((hW.cell (p := ⟨Bn, 0, none⟩) hBn).trans hc) (tabs_below hT hW) h0 (Nat.le_trans hn₀ hW.size)
end Go.Proofs.YtkpfikeggleenaaGreatDoor
