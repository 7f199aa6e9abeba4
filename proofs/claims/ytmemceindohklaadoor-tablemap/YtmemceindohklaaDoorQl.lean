import Derived.Test.YtmemceindohklaaDoorQk

/-! Ll -/
namespace Go.Proofs.YtmemceindohklaaDoor
open Go Go.Proofs Go.RowKit
set_option linter.unusedSimpArgs false
set_option linter.unusedVariables false
structure AO (w W : World) (v : Value) (out l : List KK) : Prop where
  own : OwnK W w.heap.size v out
  srt : SortedK out
  prm : out.Perm (l.filter (fun k => kd k == 0))
  below : Below w.heap.size w W
theorem AO.nil (w : World) : AO w w (.slice none 0 0) [] [] := ⟨OwnK.nil _ _, by unfold SortedK; simp, by simp, Below.refl _ _⟩
theorem AO.on {w W W' : World} {v : Value} {out l : List KK} (h : AO w W v out l) (hb : Below W.heap.size W W') : AO w W' v out l := ⟨h.own.on hb, h.srt, h.prm, h.below.trans (hb.mono h.below.size)⟩
theorem AO.len {w W : World} {v : Value} {out l : List KK} (h : AO w W v out l) : out.length ≤ l.length := by
  rw [h.prm.length_eq]
  exact List.length_filter_le _ _
theorem AO.kd0 {w W : World} {v : Value} {out l : List KK} (h : AO w W v out l) : ∀ k ∈ out, kd k = 0 ∧ k ∈ l := fun k hk => by
  have := List.mem_filter.1 (h.prm.mem_iff.1 hk)
  exact ⟨by simpa using this.2, this.1⟩
theorem AO.skip {w W : World} {v : Value} {out l : List KK} {d : KK} (h : AO w W v out l) (hd : ¬ kd d = 0) : AO w W v out (l ++ [d]) := ⟨h.own, h.srt, by rw [List.filter_append]; simpa [hd] using h.prm, h.below⟩
theorem AO.ins {w W W' : World} {v v' : Value} {out l : List KK} {d : KK} {p : Nat} (h : AO w W v out l) (hd : kd d = 0) (hp : p ≤ out.length) (h1 : ∀ i (h : i < out.length), p ≤ i → kn d < kn out[i]) (h2 : ∀ (h : 0 < p), kn (out[p - 1]'(by omega)) ≤ kn d)
    (ho : OwnK W' w.heap.size v' (out.take p ++ [d] ++ out.drop p)) (hb : Below w.heap.size w W') : AO w W' v' (out.take p ++ d :: out.drop p) (l ++ [d]) := by
  refine ⟨by simpa using ho, ins_sorted h.srt hp h1 h2, ?_, hb⟩
  refine (ins_perm out d p).trans ?_
  rw [List.filter_append]
  have e : [d].filter (fun k => kd k == 0) = [d] := by simp [hd]
  rw [e]
  exact h.prm.append_right [d]
theorem OwnK.rows {w : World} {base g c n : Nat} {l : List KK} (h : OwnK w base (.slice (some ⟨g, 0, none⟩) n c) l) : RowsK w g 0 l := by
  rcases h.form with ⟨h, _⟩ | ⟨g', c', e, _, _, _, hr⟩
  · cases h
  · cases e
    exact hr
theorem gslice {md : Region.Mode} {ops : Array Oper} {Q : Exit → Act → World → Prop} {S : World → Prop} {w : World} {fuel : Nat} {listed : Array Bool} {a : Act} {o : Oper} (i : Nat) (dst : Option Tmp) {x ix : Operand} {b n cap : Nat} (p : Nat) (hi : ops[i]? = some o) (hs : Region.noSelect ops = true) (hf : Region.free md ops listed i = true) (hr : (Region.ready md ops listed).contains i = true)
    (hQ : ∀ c a w, Q (.panic c) (a.put dst (.slice (some ⟨b, 0, none⟩) p cap)) w → Q (.panic c) a w) (hd : o.dst = dst) (hw : Region.wanted o (yielded ops a.tmps) = true) (ho : o.op = .slice 49 x none (some ix) none) (hx : a.eval x = .slice (some ⟨b, 0, none⟩) n cap) (hix : a.eval ix = .int .i64 (p : Nat)) (hp : p ≤ cap)
    (hS : S w) (h : wpAnyH Tryd.prog md ops Q S fuel (listed.setIfInBounds i true) (a.put dst (.slice (some ⟨b, 0, none⟩) p cap)) w) : wpAnyH Tryd.prog md ops Q S (fuel + 1) listed a w := by
  refine gpure i dst _ hi hs hf hr hQ hd hw (fun W => ?_) hS h
  unfold execOp
  simp only [ho, hx, hix, Option.map_some, Option.map_none]
  simp [slice_h b n cap p hp W]
theorem cp_gt {a b : Nat} (h : b < a) : cpN a b = 1 := by unfold cpN; rw [if_neg (by omega), if_pos h]
theorem cp_le {a b : Nat} (h : ¬ b < a) : cpN a b ≤ 0 := by
  unfold cpN
  by_cases h2 : a < b
  · rw [if_pos h2]
    omega
  · rw [if_neg h2, if_neg h]
    omega
theorem gtr1 (w : World) : (binOp .gtr 3 (.int .i64 1) (.int .i64 0)).run Tryd.prog w = .ok (.bool true) w := by kernel_rfl
theorem gtrN (x : Int) (h : x ≤ 0) (w : World) : (binOp .gtr 3 (.int .i64 x) (.int .i64 0)).run Tryd.prog w = .ok (.bool false) w := by
  simp [binOp, go_sem]
  omega
def PH (out l : List KK) (r : Nat) : List KK := if r ≤ 1 then out else if r = 2 then out ++ strs l else out ++ strs l ++ syms l
theorem PH_next (out l : List KK) (r : Nat) (h : r = 1 ∨ r = 2) : PH out l (r + 1) = PH out l r ++ l.filter (fun k => kd k == (r : Int)) := by
  rcases h with rfl | rfl <;> rfl
theorem PH_len (out l : List KK) (r : Nat) (hr : r ≤ 2) (ho : out.length ≤ 3000) (hl : l.length ≤ 3000) : (PH out l r).length ≤ 6000 := by
  have h1 := strs_len l
  have h2 := syms_len l
  unfold PH
  split
  · omega
  · split
    · rw [List.length_append]; omega
    · omega
end Go.Proofs.YtmemceindohklaaDoor
