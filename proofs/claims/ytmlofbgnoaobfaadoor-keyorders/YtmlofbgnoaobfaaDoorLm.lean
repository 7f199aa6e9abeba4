import Derived.Test.YtmlofbgnoaobfaaDoorLl
namespace Go.Proofs.YtmlofbgnoaobfaaDoor
open Go Go.Proofs Go.RowKit
set_option linter.unusedSimpArgs false
set_option linter.unusedVariables false
theorem kslh {ops : Array Oper} {rest : List Oper} {o : Oper} {a : Act} {w : World} {Q : Exit → Act → World → Prop} {x ix : Operand} {b n cap p : Nat} (hw : Region.wanted o (yielded ops a.tmps) = true) (ho : o.op = .slice 24 x none (some ix) none) (hx : a.eval x = .slice (some ⟨b, 0, none⟩) n cap) (hix : a.eval ix = .int .i64 (p : Nat)) (hp : p ≤ cap)
    (h : wpList Tryd.prog ops Q rest (a.put o.dst (.slice (some ⟨b, 0, none⟩) p cap)) w) : wpList Tryd.prog ops Q (o :: rest) a w := by
  refine BigFrame.wpList_want hw fun K hK => ?_
  unfold Oper.wp execOp
  simp only [ho, hx, hix, Option.map_some, Option.map_none]
  simp [slice_h b n cap p hp w]
  exact hK _ _ h
def k7 : KK := ⟨ByteArray.empty, -7⟩
def k9 : KK := ⟨ByteArray.empty, -9⟩
def OL (l : List KK) : List KK := outK (mg (ixs l)) ++ strs l ++ syms l
theorem OL_len (l : List KK) (h : l.length ≤ 3000) : (OL l).length ≤ 9000 := by
  have h1 := ixs_len l
  have h2 := strs_len l
  have h3 := syms_len l
  unfold OL outK
  rw [List.length_append, List.length_append, List.length_map, mg_len]
  omega
theorem own_some7 {w : World} {base : Nat} {v : Value} {l : List KK} (h : OwnK w base v ([] ++ l ++ [k7])) : ∃ g c, v = .slice (some ⟨g, 0, none⟩) (l.length + 1) c ∧ l.length + 1 ≤ c ∧ base ≤ g ∧ g < w.heap.size ∧ RowsK w g 0 (l ++ [k7]) := by
  rw [List.nil_append] at h
  rcases h.form with ⟨_, h⟩ | ⟨g, c, rfl, h1, h2, h3, h4⟩
  · simp at h
  · have e : (l ++ [k7]).length = l.length + 1 := by simp
    rw [e] at h1 ⊢
    exact ⟨g, c, rfl, h1, h2, h3, h4⟩
theorem rows_prefix {w : World} {b off : Nat} {l m : List KK} (h : RowsK w b off (l ++ m)) : RowsK w b off l := by
  intro j hj
  have := h j (by rw [List.length_append]; omega)
  rw [List.getElem_append_left hj] at this
  exact this
theorem rows_last {w : World} {b : Nat} {l : List KK} (h : RowsK w b 0 (l ++ [k7])) : w.cell? ⟨b, l.length * 2 + 1, none⟩ = some (.int .i64 (-7)) := by
  have := h l.length (by simp) 1 (.int .i64 (-7)) (by simp [k7, KK.cs])
  rw [Nat.zero_add] at this
  exact this
theorem own_slice {w : World} {base : Nat} {v : Value} {l : List KK} (h : OwnK w base v l) : ∃ A c, v = .slice A l.length c := by
  rcases h.form with ⟨rfl, rfl⟩ | ⟨g, c, rfl, _⟩
  · exact ⟨none, 0, rfl⟩
  · exact ⟨_, c, rfl⟩
/-- The cells of a row are there. -/
def ThereX (W : World) (b n : Nat) : Prop := ∀ o, o < n * 2 → (W.cell? ⟨b, o, none⟩).isSome = true ∧ W.frozen? ⟨b, o, none⟩ = false
theorem OwnK.thereX {w : World} {base g c n : Nat} {l : List KK} (h : OwnK w base (.slice (some ⟨g, 0, none⟩) n c) l) : ThereX w g l.length := by
  rcases h.2 with ⟨h, _⟩ | ⟨g', c', cur, e, h1, h2, h3, h4, h5, h6⟩
  · cases h
  · cases e
    intro o ho
    have hlt : o < cur.size := by
      have : l.length * 2 ≤ c * 2 := Nat.mul_le_mul_right _ h3
      omega
    exact ⟨by simp [World.cell?, h2, hlt], by simp [World.frozen?, h2]⟩
theorem ThereX.set {b n : Nat} : ∀ (vs : List Value) (p : Nat) (W : World), ThereX W b n → ThereX (W.setCells b p vs) b n
  | [], _, _, h => h
  | v :: vs, p, W, h => by
    rw [World.setCells]
    refine ThereX.set vs _ _ ?_
    intro o ho
    have h1 := h o ho
    refine ⟨?_, ?_⟩
    · by_cases e : o = p
      · subst e
        rw [World.cell?_setCell_same' _ _ _ h1.1]
        rfl
      · rw [World.cell?_setCell_other _ _ _ _ (by simp [e])]
        exact h1.1
    · have := h1.2
      simpa [go_sem] using this
theorem gb_setCells {W X : World} {b p : Nat} {vs : List Value} (h : W.grownBy X (some b)) : W.grownBy (X.setCells b p vs) (some b) := by
  have hq : ∀ (vs : List Value) (p : Nat) (X : World), W.grownBy X (some b) → W.grownBy (X.setCells b p vs) (some b) := by
    intro vs
    induction vs with
    | nil => exact fun _ _ h => h
    | cons v vs ih =>
      intro p X h
      rw [World.setCells]
      refine ih _ _ ⟨h.os, h.tape, h.output, by simp [World.setCell]; exact h.size, fun k hk hne => ?_⟩
      rw [← h.block k hk hne]
      have : b ≠ k := fun e => hne (by rw [e])
      simp [World.setCell, Array.getElem?_modify, this]
  exact hq vs p X h
theorem kstoreAt {ops : Array Oper} {rest : List Oper} {o : Oper} {a : Act} {w : World} {Q : Exit → Act → World → Prop} {x y : Operand} {b n j : Nat} {u : KK} (hw : Region.wanted o (yielded ops a.tmps) = true) (ho : o.op = .store 23 x y) (hx : a.eval x = .pointer (some ⟨b, 0 + j * 2, none⟩)) (hy : a.eval y = u.agg) (hj : j < n) (ht : ThereX w b n)
    (h : ∀ X, X = w.setCells b (0 + j * 2) u.cs → wpList Tryd.prog ops Q rest (a.put o.dst undef) X) : wpList Tryd.prog ops Q (o :: rest) a w := by
  refine BigFrame.wpList_want hw fun K hK => ?_
  exact wp_store_mid 23 x y ho _ (0 + j * 2) u.cs.toArray hx hy (fun k hk => ht (0 + j * 2 + k) (by have hk2 : k < 2 := hk; omega)) info23 (by simp [KK.cs, Value.oneCell']) (hK _ _ (h _ rfl))
end Go.Proofs.YtmlofbgnoaobfaaDoor
