import Derived.Test.YtpbdidnphkkenaaGreatDoorQu
set_option linter.all false
namespace Go.Proofs.YtpbdidnphkkenaaGreatDoor
section
open Go Go.Proofs Go.RowKit
/-! The mathematics of Order. -/
def dN (u : Nat) : List Nat := (Lib.decDigits u).map UInt8.toNat
theorem dN_small {u : Nat} (h : u < 10) : dN u = [48 + u] := by
  unfold dN
  rw [Lib.decDigits_one h]
  simp
  omega
theorem dN_step {n e : Nat} (hn : 1 ≤ n) (he : e < 10) : dN (n * 10 + e) = dN n ++ [48 + e] := by
  unfold dN
  rw [Lib.decDigits, dif_neg (by omega)]
  have h1 : (n * 10 + e) / 10 = n := by omega
  have h2 : (n * 10 + e) % 10 = e := by omega
  rw [h1, h2, List.map_append]
  simp
  omega
theorem dgF_digits (most : Nat) : ∀ (l : List Nat) (n m : Nat), 1 ≤ n → dgF most l n = some m → dN m = dN n ++ l
  | [], n, m, _, e => by
    simp [dgF] at e
    subst e
    simp
  | c :: r, n, m, hn, e => by
    unfold dgF at e
    split at e
    · cases e
    · rename_i hc
      split at e
      · cases e
      · have := dgF_digits most r _ m (by omega) e
        rw [this, dN_step hn (by omega)]
        have hc' : 48 + (c - 48) = c := by omega
        rw [hc']
        simp
theorem dgV_digits (most : Nat) (l : List Nat) (m : Nat) (e : dgV most l = some m) : dN m = l := by
  unfold dgV at e
  split at e
  · cases e
  · rename_i c r
    split at e
    · cases e
    · rename_i hz
      unfold dgF at e
      split at e
      · cases e
      · rename_i hc
        split at e
        · cases e
        · simp only [Nat.zero_mul, Nat.zero_add] at e
          by_cases h1 : 1 ≤ c - 48
          · rw [dgF_digits most r _ m h1 e, dN_small (by omega)]
            have hc' : 48 + (c - 48) = c := by omega
            rw [hc']
            rfl
          · have hr : r = [] := by
              by_cases hr : r = []
              · exact hr
              · exact absurd ⟨by omega, hr⟩ hz
            subst hr
            simp [dgF] at e
            subst e
            rw [dN_small (by omega)]
            have hc' : 48 + (c - 48) = c := by omega
            rw [hc']
/-- An index is written in one way. -/
theorem canon {k : KK} (h : kd k = 0) : k = ⟨dStr (kn k), 0⟩ := by
  unfold kd kdOf at h
  split at h
  · rename_i hn
    split at h
    · rename_i hs
      obtain ⟨m, hm⟩ := Option.isSome_iff_exists.1 hs
      have hk : kn k = m := by
        unfold kn knOf
        rw [if_pos hn, hm]
        rfl
      rw [hk]
      have hd := dgV_digits _ _ _ hm
      refine KK.ext' ?_ hn
      have : k.s.data.toList = Lib.decDigits m := by
        have h2 : (Lib.decDigits m).map UInt8.toNat = k.s.data.toList.map UInt8.toNat := hd
        exact ((List.map_inj_right (fun a b hab => UInt8.toNat_inj.1 hab)).1 h2).symm
      show k.s = ⟨(Lib.decDigits m).toArray⟩
      rw [← this]
    · omega
  · omega
theorem outK_canon {l : List KK} (h : ∀ k ∈ l, kd k = 0) : outK (l.map kn) = l := by
  unfold outK
  rw [List.map_map]
  conv => rhs; rw [← List.map_id l]
  refine List.map_congr_left (fun k hk => ?_)
  exact (canon (h k hk)).symm
theorem mg_sorted (d : List Nat) : (mg d).Pairwise (fun a b => a ≤ b) := by
  unfold mg
  have := List.pairwise_mergeSort (le := fun x y => !ltN y x) (fun a b c h1 h2 => by simp [ltN] at *; omega) (fun a b => by simp [ltN]; omega) d
  refine this.imp ?_
  intro a b h
  simp [ltN] at h
  omega
theorem mg_perm (d : List Nat) : (mg d).Perm d := List.mergeSort_perm d _
theorem sorted_eq {a b : List Nat} (ha : a.Pairwise (fun x y => x ≤ y)) (hb : b.Pairwise (fun x y => x ≤ y)) (hp : a.Perm b) : a = b :=
  List.Perm.eq_of_pairwise (le := fun x y => x ≤ y) (fun x y _ _ h1 h2 => Nat.le_antisymm h1 h2) ha hb hp
/-- Keys in order, that are those of rank 0 of a list, are what Order makes of them. -/
def SortedK (out : List KK) : Prop := (out.map kn).Pairwise (fun x y => x ≤ y)
theorem sorted_out {out l : List KK} (hs : SortedK out) (hp : out.Perm (l.filter (fun k => kd k == 0))) : outK (mg (ixs l)) = out := by
  have h0 : ∀ k ∈ out, kd k = 0 := fun k hk => by
    have := hp.mem_iff.1 hk
    simpa using (List.mem_filter.1 this).2
  have he : mg (ixs l) = out.map kn := sorted_eq (mg_sorted _) hs ((mg_perm _).trans (by unfold ixs; exact (hp.map kn).symm))
  rw [he]
  exact outK_canon h0
/-- One more key is put where it belongs. -/
theorem ins_sorted {out : List KK} {d : KK} {p : Nat} (hs : SortedK out) (hp : p ≤ out.length) (h1 : ∀ i (h : i < out.length), p ≤ i → kn d < kn out[i]) (h2 : ∀ (h : 0 < p), kn (out[p - 1]'(by omega)) ≤ kn d) : SortedK (out.take p ++ d :: out.drop p) := by
  unfold SortedK at *
  rw [List.pairwise_map] at *
  have ht : ∀ a ∈ out.take p, kn a ≤ kn d := by
    intro a ha
    obtain ⟨i, hi, rfl⟩ := List.mem_iff_getElem.1 ha
    rw [List.length_take] at hi
    rw [List.getElem_take]
    have hl := h2 (by omega)
    by_cases e : i = p - 1
    · subst e
      exact hl
    · have := List.pairwise_iff_getElem.1 hs i (p - 1) (by omega) (by omega) (by omega)
      omega
  have hd : ∀ b ∈ out.drop p, kn d ≤ kn b := by
    intro b hb
    obtain ⟨i, hi, rfl⟩ := List.mem_iff_getElem.1 hb
    rw [List.length_drop] at hi
    rw [List.getElem_drop]
    have := h1 (p + i) (by omega) (by omega)
    omega
  rw [List.pairwise_append]
  refine ⟨hs.sublist (List.take_sublist _ _), ?_, ?_⟩
  · rw [List.pairwise_cons]
    exact ⟨hd, hs.sublist (List.drop_sublist _ _)⟩
  · intro a ha b hb
    rcases List.mem_cons.1 hb with rfl | hb
    · exact ht a ha
    · have := ht a ha
      have := hd b hb
      omega
theorem ins_perm (out : List KK) (d : KK) (p : Nat) : (out.take p ++ d :: out.drop p).Perm (out ++ [d]) := by
  have h := List.take_append_drop p out
  refine List.perm_middle.trans ?_
  rw [h]
  exact (List.perm_append_singleton d out).symm
theorem gtr0 (p : Nat) (w : World) : (binOp .gtr 3 (.int .i64 ((p + 1 : Nat) : Int)) (.int .i64 0)).run Tryz.prog w = .ok (.bool true) w := by
  simp [binOp, go_sem]
theorem slice_h (b n cap p : Nat) (hp : p ≤ cap) (w : World) : (Instr.sliceAt 64 (.slice (some ⟨b, 0, none⟩) n cap) none (some (.int .i64 (p : Nat))) none).run Tryz.prog w = .ok (.slice (some ⟨b, 0, none⟩) p cap) w := by
  rw [run_sliceAt_slice (h := by kernel_rfl), run_slice_h (ht := by kernel_rfl) (h0 := by omega) (h2 := by omega)]
  have e : (sizeOf (Tryz.prog.elem 64)).run Tryz.prog w = .ok 2 w := by kernel_rfl
  rw [e]
  simp [sliced, Addr.add, Result.andThen]
theorem slice_l (b n cap p : Nat) (hp : p ≤ n) (hn : n ≤ cap) (w : World) : (Instr.sliceAt 64 (.slice (some ⟨b, 0, none⟩) n cap) (some (.int .i64 (p : Nat))) none none).run Tryz.prog w = .ok (.slice (if cap = p then some ⟨b, 0, none⟩ else some ⟨b, p * 2, none⟩) (n - p) (cap - p)) w := by
  rw [run_sliceAt_slice (h := by kernel_rfl), run_slice_l (ht := by kernel_rfl) (h0 := by omega) (h1 := by omega)]
  have e : (sizeOf (Tryz.prog.elem 64)).run Tryz.prog w = .ok 2 w := by kernel_rfl
  rw [e]
  by_cases h0 : p = 0
  · subst h0
    simp [sliced, Addr.add, Result.andThen]
  · have h2 : ¬ p * 2 = 0 := by omega
    simp [sliced, Addr.add, Result.andThen, h2]
theorem RowsK.drop {w : World} {b off : Nat} {l : List KK} (h : RowsK w b off l) (p : Nat) : RowsK w b (off + p * 2) (l.drop p) := by
  intro j hj
  rw [List.length_drop] at hj
  rw [List.getElem_drop]
  have := h (p + j) (by omega)
  have e : off + p * 2 + j * 2 = off + (p + j) * 2 := by omega
  rw [e]
  exact this
/-- out[k:] -/
theorem kslice {ops : Array Oper} {rest : List Oper} {o : Oper} {a : Act} {w : World} {Q : Exit → Act → World → Prop} {x ix : Operand} {base p : Nat} {out : List KK} {v : Value} (hw : Region.wanted o (yielded ops a.tmps) = true) (ho : o.op = .slice 64 x (some ix) none none) (hx : a.eval x = v) (hix : a.eval ix = .int .i64 (p : Nat)) (hown : OwnK w base v out) (hp : p ≤ out.length)
    (h : ∀ u, ReadsK w u (out.drop p) → (∀ c, u = .slice none 0 c → c = 0) → wpList Tryz.prog ops Q rest (a.put o.dst u) w) : wpList Tryz.prog ops Q (o :: rest) a w := by
  refine BigFrame.wpList_want hw fun K hK => ?_
  rcases hown.form with ⟨rfl, rfl⟩ | ⟨g, c, rfl, hlc, hbg, hgl, hr⟩
  · obtain rfl : p = 0 := by simpa using hp
    have hP := hK _ _ (h (.slice none 0 0) (.inl ⟨none, 0, rfl, rfl⟩) (fun c hc => by cases hc; rfl))
    have e : (Instr.sliceAt 64 (.slice none 0 0) (some (.int .i64 (0 : Nat))) none none).run Tryz.prog w = .ok (.slice none 0 0) w := by kernel_rfl
    unfold Oper.wp execOp
    simp only [ho, hx, hix, Option.map_some, Option.map_none]
    simp only [Int.ofNat_eq_natCast, Int.cast_ofNat_Int] at e
    simp [e]
    exact hP
  · have hP := hK _ _ (h (.slice (if c = p then some ⟨g, 0, none⟩ else some ⟨g, p * 2, none⟩) (out.length - p) (c - p)) (by
      by_cases hd : out.drop p = []
      · rw [hd]
        have h0 : out.length - p = 0 := by
          have := congrArg List.length hd
          rw [List.length_drop] at this
          simpa using this
        rw [h0]
        exact .inl ⟨_, _, rfl, rfl⟩
      · have hlt : p < out.length := by
          rcases Nat.lt_or_ge p out.length with h | h
          · exact h
          · exact absurd (List.drop_eq_nil_of_le h) hd
        rw [if_neg (by omega)]
        refine .inr ⟨g, p * 2, c - p, by rw [List.length_drop], hgl, ?_⟩
        have := hr.drop p
        rwa [Nat.zero_add] at this) (fun c' hc' => by split at hc' <;> cases hc'))
    unfold Oper.wp execOp
    simp only [ho, hx, hix, Option.map_some, Option.map_none]
    simp [slice_l g out.length c p hp hlc w]
    exact hP
theorem cmp0 {a d : KK} (ha : kd a = 0) (hd : kd d = 0) : cmpK a.s a.n d.s d.n = cpN (kn a) (kn d) := by
  unfold cmpK
  have h1 : kdOf a.s a.n = 0 := ha
  have h2 : kdOf d.s d.n = 0 := hd
  rw [if_pos (h1.trans h2.symm), if_pos h1]
  rfl
