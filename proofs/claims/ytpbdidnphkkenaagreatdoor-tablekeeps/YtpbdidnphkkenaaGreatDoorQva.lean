import Derived.Test.YtpbdidnphkkenaaGreatDoorQn
import Derived.Deep.LoopGhost

/-! Ng -/
namespace Go.Proofs.YtpbdidnphkkenaaGreatDoor
open Go Go.Proofs Go.Maps Go.RowKit
set_option linter.unusedSimpArgs false
set_option linter.unusedVariables false
set_option maxHeartbeats 1000000
def Dis (a b : List Nat) : Prop := ∀ x ∈ a, x ∉ b
theorem Dis.symm {a b : List Nat} (h : Dis a b) : Dis b a := fun x hx hx' => h x hx' hx
theorem Sep.set : ∀ (l : List (List Nat)) (m i : Nat) (A A' : List Nat), l.Pairwise Dis → (∀ B ∈ l, ∀ b ∈ B, b < m) → l[i]? = some A → (∀ b ∈ A', b ∈ A ∨ m ≤ b) → (l.set i A').Pairwise Dis
  | [], m, i, A, A', _, _, hi, _ => by simp at hi
  | B :: l, m, 0, A, A', h, hlt, hi, hA => by
    obtain rfl : B = A := by simpa using hi
    obtain ⟨h1, h2⟩ := List.pairwise_cons.1 h
    rw [List.set_cons_zero]
    refine List.pairwise_cons.2 ⟨fun C hC x hx hx' => ?_, h2⟩
    rcases hA x hx with hx | hx
    · exact h1 C hC x hx hx'
    · have := hlt C (by simp [hC]) x hx'
      omega
  | B :: l, m, i + 1, A, A', h, hlt, hi, hA => by
    obtain ⟨h1, h2⟩ := List.pairwise_cons.1 h
    rw [List.set_cons_succ]
    have hi' : l[i]? = some A := by simpa using hi
    refine List.pairwise_cons.2 ⟨fun C hC x hx hx' => ?_, Sep.set l m i A A' h2 (fun D hD => hlt D (by simp [hD])) hi' hA⟩
    rcases List.mem_or_eq_of_mem_set hC with hC | rfl
    · exact h1 C hC x hx hx'
    · rcases hA x hx' with hx' | hx'
      · exact h1 A (List.mem_of_getElem? hi') x hx hx'
      · have := hlt B (by simp) x hx
        omega
/-- A pair of tables of the program and two of the document. -/
structure PS where
  P : Nat
  T0 : TT
  T1 : TT
  R0 : RT
  R1 : RT
  left : Int
def PS.parts (S : PS) : List (List Nat) := [[S.P], S.T0.blocks, S.T1.blocks, S.R0.blocks, S.R1.blocks]
def PS.cs (S : PS) : List Value := pairCs S.T0.t S.T1.t S.R0.t S.R1.t S.left
structure PS.Bs (S : PS) (W : World) (base : Nat) : Prop where
  hold : Holds W S.P S.cs
  t0 : S.T0.Is W
  t1 : S.T1.Is W
  r0 : S.R0.Is W
  r1 : S.R1.Is W
  sep : S.parts.Pairwise Dis
  low : ∀ B ∈ S.parts, ∀ b ∈ B, base ≤ b
  four : 4 ≤ base
  size : base ≤ W.heap.size
structure PS.Is (S : PS) (W : World) (base N : Nat) : Prop where
  bs : S.Bs W base
  rel0 : Rel S.T0 S.R0
  rel1 : Rel S.T1 S.R1
  last : S.T0.last ≤ N ∧ S.T1.last ≤ N
  nx : 0 ≤ S.R0.nx ∧ S.R0.nx ≤ N ∧ 0 ≤ S.R1.nx ∧ S.R1.nx ≤ N
theorem PS.Bs.lt {S : PS} {W : World} {base : Nat} (h : S.Bs W base) : ∀ B ∈ S.parts, ∀ b ∈ B, b < W.heap.size := by
  intro B hB b hb
  simp only [PS.parts, List.mem_cons, List.not_mem_nil, or_false] at hB
  rcases hB with rfl | rfl | rfl | rfl | rfl
  · obtain rfl : b = S.P := by simpa using hb
    exact h.hold.lt (by simp [PS.cs, pairCs])
  · exact h.t0.lt b hb
  · exact h.t1.lt b hb
  · exact h.r0.lt b hb
  · exact h.r1.lt b hb
theorem PS.Is.mono {S : PS} {W : World} {base N M : Nat} (h : S.Is W base N) (hM : N ≤ M) : S.Is W base M :=
  ⟨h.bs, h.rel0, h.rel1, ⟨Nat.le_trans h.last.1 hM, Nat.le_trans h.last.2 hM⟩, ⟨h.nx.1, by have := h.nx.2.1; omega, h.nx.2.2.1, by have := h.nx.2.2.2; omega⟩⟩
theorem PS.Bs.on {S : PS} {W W' : World} {base : Nat} (h : S.Bs W base) (hb : Below W.heap.size W W') : S.Bs W' base :=
  ⟨h.hold.block (hb.block _ (h.lt [S.P] (by simp [PS.parts]) S.P (by simp))), h.t0.on hb, h.t1.on hb, h.r0.on hb, h.r1.on hb, h.sep, h.low, h.four, Nat.le_trans h.size hb.size⟩
theorem PS.Is.on {S : PS} {W W' : World} {base N : Nat} (h : S.Is W base N) (hb : Below W.heap.size W W') : S.Is W' base N :=
  ⟨h.bs.on hb, h.rel0, h.rel1, h.last, h.nx⟩
theorem PS.Bs.drew {S : PS} {W : World} {base : Nat} (h : S.Bs W base) : S.Bs W.drew base :=
  ⟨h.hold.block rfl, h.t0.drew, h.t1.drew, h.r0.drew, h.r1.drew, h.sep, h.low, h.four, h.size⟩
theorem PS.Is.drew {S : PS} {W : World} {base N : Nat} (h : S.Is W base N) : S.Is W.drew base N :=
  ⟨h.bs.drew, h.rel0, h.rel1, h.last, h.nx⟩
section
variable {S : PS} {W : World} {base N : Nat}
theorem PS.Bs.d (h : S.Bs W base) (i j : Nat) (A B : List Nat) (hi : S.parts[i]? = some A) (hj : S.parts[j]? = some B) (hij : i < j) : Dis A B := by
  have hil := (List.getElem?_eq_some_iff.1 hi)
  have hjl := (List.getElem?_eq_some_iff.1 hj)
  have := List.pairwise_iff_getElem.1 h.sep i j hil.1 hjl.1 hij
  rw [hil.2, hjl.2] at this
  exact this
theorem PS.Bs.four0 (h : S.Bs W base) : ∀ b ∈ S.T0.blocks, 4 ≤ b := fun b hb => Nat.le_trans h.four (h.low _ (by simp [PS.parts]) b hb)
theorem PS.Is.live0 (h : S.Is W base N) : S.T0.live.length ≤ N := by
  have h2 := S.T0.live_le
  have h3 := h.bs.t0.len
  have h4 := h.last.1
  omega
theorem PS.Is.live1 (h : S.Is W base N) : S.T1.live.length ≤ N := by
  have h2 := S.T1.live_le
  have h3 := h.bs.t1.len
  have h4 := h.last.2
  omega
theorem PS.Is.es0 (h : S.Is W base N) : S.R0.es.length ≤ N := by
  have h1 := h.rel0.len
  have h2 := h.live0
  omega
theorem PS.Is.es1 (h : S.Is W base N) : S.R1.es.length ≤ N := by
  have h1 := h.rel1.len
  have h2 := h.live1
  omega
end
/-- What a call may have done to the pair: its own blocks alone are others. -/
structure Went (S S' : PS) (w w' : World) : Prop where
  P : S'.P = S.P
  fr : Fr w w' S.parts.flatten
  new : ∀ b ∈ S'.parts.flatten, b ∈ S.parts.flatten ∨ w.heap.size ≤ b
theorem Went.refl (S : PS) {w w' : World} (h : Below w.heap.size w w') : Went S S w w' := ⟨rfl, Fr.of_below h _, fun b hb => .inl hb⟩
theorem Went.trans {S S' S'' : PS} {w w' w'' : World} (h : Went S S' w w') (k : Went S' S'' w' w'') : Went S S'' w w'' :=
  ⟨k.P.trans h.P, h.fr.trans k.fr (fun b hb => h.new b hb), fun b hb => by
    rcases k.new b hb with hb | hb
    · exact h.new b hb
    · exact .inr (Nat.le_trans h.fr.size hb)⟩
theorem Went.below {S S' : PS} {w w' W : World} {base : Nat} (h : Went S S' w w') (hS : S.Bs W base) (hz : base ≤ w.heap.size) : Below base w w' :=
  ⟨h.fr.os, h.fr.tape, h.fr.output, h.fr.size, fun b hb => h.fr.block b (Nat.lt_of_lt_of_le hb hz) (fun he => by
    obtain ⟨B, hB, hbB⟩ := List.mem_flatten.1 he
    have := hS.low B hB b hbB
    omega)⟩
/-- The first table is another one: what was done to it touched its own blocks alone. -/
theorem PS.Bs.table0 {S : PS} {W W' : World} {base : Nat} (h : S.Bs W base) {T' : TT} (hT : T'.Is W') (ht : T'.t = S.T0.t) (hf : Fr W W' S.T0.blocks) (hb : ∀ b ∈ T'.blocks, b ∈ S.T0.blocks ∨ W.heap.size ≤ b) :
    PS.Bs { S with T0 := T' } W' base ∧ Went S { S with T0 := T' } W W' := by
  have hP : S.P ∉ S.T0.blocks := h.d 0 1 _ _ rfl rfl (by omega) S.P (by simp)
  have hs := Sep.set S.parts W.heap.size 1 S.T0.blocks T'.blocks h.sep h.lt rfl hb
  have hn : ∀ b ∈ (PS.parts { S with T0 := T' }).flatten, b ∈ S.parts.flatten ∨ W.heap.size ≤ b := by
    intro b hb'
    simp only [PS.parts, List.flatten_cons, List.flatten_nil, List.mem_append, List.append_nil] at hb' ⊢
    rcases hb' with h1 | h1 | h1
    · exact .inl (.inl h1)
    · rcases hb b h1 with h1 | h1
      · exact .inl (.inr (.inl h1))
      · exact .inr h1
    · exact .inl (.inr (.inr h1))
  refine ⟨⟨?_, hT, h.t1.fr hf (h.d 1 2 _ _ rfl rfl (by omega)).symm, h.r0.fr hf (h.d 1 3 _ _ rfl rfl (by omega)).symm, h.r1.fr hf (h.d 1 4 _ _ rfl rfl (by omega)).symm, hs, ?_, h.four, Nat.le_trans h.size hf.size⟩, rfl, hf.mono (fun b hb => .inl ?_), hn⟩
  · unfold PS.cs
    simp only [ht]
    exact h.hold.block (hf.block _ (h.lt [S.P] (by simp [PS.parts]) S.P (by simp)) hP)
  · intro B hB b hbB
    rcases hn b (List.mem_flatten.2 ⟨B, hB, hbB⟩) with h1 | h1
    · obtain ⟨C, hC, hbC⟩ := List.mem_flatten.1 h1
      exact h.low C hC b hbC
    · exact Nat.le_trans h.size h1
  · exact List.mem_flatten.2 ⟨S.T0.blocks, by simp [PS.parts], hb⟩
/-- The document's first table is another one. -/
theorem PS.Bs.doc0 {S : PS} {W W' : World} {base : Nat} (h : S.Bs W base) {R' : RT} (hT : R'.Is W') (ht : R'.t = S.R0.t) (hf : Fr W W' S.R0.blocks) (hb : ∀ b ∈ R'.blocks, b ∈ S.R0.blocks ∨ W.heap.size ≤ b) :
    PS.Bs { S with R0 := R' } W' base ∧ Went S { S with R0 := R' } W W' := by
  have hP : S.P ∉ S.R0.blocks := h.d 0 3 _ _ rfl rfl (by omega) S.P (by simp)
  have hs := Sep.set S.parts W.heap.size 3 S.R0.blocks R'.blocks h.sep h.lt rfl hb
  have hn : ∀ b ∈ (PS.parts { S with R0 := R' }).flatten, b ∈ S.parts.flatten ∨ W.heap.size ≤ b := by
    intro b hb'
    simp only [PS.parts, List.flatten_cons, List.flatten_nil, List.mem_append, List.append_nil] at hb' ⊢
    rcases hb' with h1 | h1 | h1 | h1 | h1
    · exact .inl (.inl h1)
    · exact .inl (.inr (.inl h1))
    · exact .inl (.inr (.inr (.inl h1)))
    · rcases hb b h1 with h1 | h1
      · exact .inl (.inr (.inr (.inr (.inl h1))))
      · exact .inr h1
    · exact .inl (.inr (.inr (.inr (.inr h1))))
  refine ⟨⟨?_, h.t0.fr hf (h.d 1 3 _ _ rfl rfl (by omega)), h.t1.fr hf (h.d 2 3 _ _ rfl rfl (by omega)), hT, h.r1.fr hf (h.d 3 4 _ _ rfl rfl (by omega)).symm, hs, ?_, h.four, Nat.le_trans h.size hf.size⟩, rfl, hf.mono (fun b hb => .inl ?_), hn⟩
  · unfold PS.cs
    simp only [ht]
    exact h.hold.block (hf.block _ (h.lt [S.P] (by simp [PS.parts]) S.P (by simp)) hP)
  · intro B hB b hbB
    rcases hn b (List.mem_flatten.2 ⟨B, hB, hbB⟩) with h1 | h1
    · obtain ⟨C, hC, hbC⟩ := List.mem_flatten.1 h1
      exact h.low C hC b hbC
    · exact Nat.le_trans h.size h1
  · exact List.mem_flatten.2 ⟨S.R0.blocks, by simp [PS.parts], hb⟩
def errOf (k : KK) : Int := if goodK k then 0 else 5
/-- What Put makes of the document's table. -/
def PutR (R : RT) (k : KK) (d : DD) (R' : RT) : Prop := (goodK k = false ∧ R' = R) ∨ (goodK k = true ∧ ∃ a x b, R.es = a ++ x :: b ∧ R.find k = some a.length ∧ R'.es = a ++ ⟨x.k, d, x.n⟩ :: b) ∨ (goodK k = true ∧ R.find k = none ∧ R'.es = R.es ++ [⟨k, d, R.nx⟩])
theorem refPut13 (R : RT) (k : KK) (d : DD) (w : World) (hR : R.Is w) (hl : R.es.length ≤ 100000) (hnx : 0 ≤ R.nx ∧ R.nx < 1000000) : Calls Tryz.prog 13 #[.pointer (some ⟨R.t, 0, none⟩), k.agg, d.agg] w fun e w' => e = .returned (.int .i64 (errOf k)) ∧ ∃ R' : RT, R'.Is w' ∧ R'.t = R.t ∧ Fr w w' R.blocks ∧ (∀ b ∈ R'.blocks, b ∈ R.blocks ∨ w.heap.size ≤ b) ∧ (R'.nx = R.nx ∨ R'.nx = R.nx + 1) ∧ PutR R k d R' := by
  cases hg : goodK k with
  | false =>
    have e : errOf k = 5 := by unfold errOf; rw [hg]; rfl
    rw [e]
    refine (refPut_bad R k d w hR hl hg).mono ?_
    rintro e' w' ⟨rfl, h1, h2⟩
    exact ⟨rfl, R, h1, rfl, h2, fun b hb => .inl hb, .inl rfl, .inl ⟨hg, rfl⟩⟩
  | true =>
    have e : errOf k = 0 := by unfold errOf; rw [hg]; rfl
    rw [e]
    cases hf : R.find k with
    | some i =>
      obtain ⟨hi, hk⟩ := RT.find_lt hf
      have he : R.es = R.es.take i ++ R.es[i] :: R.es.drop (i + 1) := by simp
      have hl2 : (R.es.take i).length = i := by simp; omega
      refine (refPut_some R k d w hR hl hg (R.es.take i) (R.es.drop (i + 1)) R.es[i] he (by rw [hl2]; exact hf)).mono ?_
      rintro e' w' ⟨rfl, h1, h2⟩
      exact ⟨rfl, _, h1, rfl, h2, fun b hb => .inl hb, .inl rfl, .inr (.inl ⟨hg, _, _, _, he, by rw [hl2]; exact hf, rfl⟩)⟩
    | none =>
      refine (refPut_none R k d w hR hl hnx hg hf).mono ?_
      rintro e' w' ⟨rfl, lv, h1, h2, h3⟩
      refine ⟨rfl, _, h1, rfl, h2, fun b hb => ?_, .inr rfl, .inr (.inr ⟨hg, hf, rfl⟩)⟩
      simp only [RT.blocks, List.mem_cons] at hb ⊢
      rcases hb with rfl | hb
      · exact .inl (.inl rfl)
      · rcases h3 b (by simpa using hb) with h4 | h4
        · exact .inl (.inr (by simp [h4]))
        · exact .inr h4
/-- What Put makes of the program's table. -/
def PutT (T : TT) (k : KK) (d : DD) (T' : TT) : Prop := (∃ r, T.find k = some r ∧ T' = T.upd r.b d) ∨ (T.find k = none ∧ goodK k = true ∧ ∃ rv R, T' = T.added rv R k d) ∨ (T.find k = none ∧ goodK k = false ∧ T' = T)
theorem Rel.es {T : TT} {t t' : Nat} {lv lv' : Value} {es es' : List EE} {nx nx' : Int} (h : Rel T ⟨t, lv, es, nx⟩) (he : es' = es) : Rel T ⟨t', lv', es', nx'⟩ := by
  subst he
  exact h
theorem rel_put {T T' : TT} {R R' : RT} {W : World} {k : KK} {d : DD} (h : Rel T R) (hT : T.Is W) (hp : PutT T k d T') (hq : PutR R k d R') : Rel T' R' := by
  have hs := h.some k
  rcases hp with ⟨r, h1, rfl⟩ | ⟨h1, h2, rv, B, rfl⟩ | ⟨h1, h2, rfl⟩
  · have hg : goodK k = true := by
      have := hT.good r (List.mem_of_find?_eq_some h1)
      rwa [(TT.find_mem h1).2.2] at this
    rcases hq with ⟨h3, _⟩ | ⟨_, a, x, b, h3, h4, h5⟩ | ⟨_, h3, _⟩
    · rw [h3] at hg; cases hg
    · exact (h.upd hT h1 h3 h4 R'.t R'.lv d R'.nx).es h5
    · rw [h1, h3] at hs; cases hs
  · rcases hq with ⟨h3, _⟩ | ⟨_, a, x, b, h3, h4, h5⟩ | ⟨_, h3, h4⟩
    · rw [h3] at h2; cases h2
    · rw [h1, h4] at hs; cases hs
    · exact (h.added rv R'.lv B R'.t k d R.nx R'.nx).es h4
  · rcases hq with ⟨h3, rfl⟩ | ⟨h3, _⟩ | ⟨h3, _⟩
    · exact h
    · rw [h3] at h2; cases h2
    · rw [h3] at h2; cases h2
theorem PutT.last {T T' : TT} {k : KK} {d : DD} (h : PutT T k d T') : T'.last ≤ T.last + 1 := by
  rcases h with ⟨r, h1, rfl⟩ | ⟨h1, h2, rv, B, rfl⟩ | ⟨h1, h2, rfl⟩
  · exact Nat.le_succ _
  · exact Nat.le_refl _
  · exact Nat.le_succ _
end Go.Proofs.YtpbdidnphkkenaaGreatDoor

/-! Nh -/
namespace Go.Proofs.YtpbdidnphkkenaaGreatDoor
open Go Go.Proofs Go.Maps Go.RowKit
set_option linter.unusedSimpArgs false
set_option linter.unusedVariables false
set_option maxHeartbeats 1000000
def actCs (kd : Int) (k : KK) (d : DD) (n : Int) (inner : Value) : List Value := .int .i64 kd :: (k.cs ++ (d.cs ++ [.int .i64 n, inner]))
def actV (kd : Int) (k : KK) (d : DD) (n : Int) (inner : Value) : Value := .agg (actCs kd k d n inner).toArray
theorem num11 (n : Int) (h : 0 ≤ n ∧ n ≤ 1000) (w : World) : Calls Tryz.prog 11 #[.int .i64 n] w fun e w' => e = .returned (.int .i64 n) ∧ Below w.heap.size w w' := by
  have hw : IntKind.i64.wrap n = n := by rw [IntKind.wrap_i64]; omega
  go_enter Tryz.func11, Tryz.ntmps11
  go_wp2
  go_ret
  exact ⟨rfl, Below.refl _ _⟩
theorem eqlI (n : Int) (w : World) : (binOp .eql 3 (.int .i64 n) (.int .i64 n)).run Tryz.prog w = .ok (.bool true) w := by
  simp [go_sem]
theorem errOf_le (k : KK) : 0 ≤ errOf k ∧ errOf k ≤ 1000 := by
  unfold errOf
  split <;> decide
theorem gcallR {md : Region.Mode} {ops : Array Oper} {Q : Exit → Act → World → Prop} {S : World → Prop} {w : World} {fuel : Nat} {listed : Array Bool} {a : Act} {o : Oper} (i : Nat) (dst : Option Tmp) {f : FuncId} {args : Array Value} {R : Ending → World → Prop} {rs : List Nat} (hi : ops[i]? = some o) (hd : o.dst = dst) (hw : Region.wanted o (yielded ops a.tmps) = true)
    (he : (execOp a.eval o).run Tryz.prog w = .ok (.enter f args) w) (hC : Calls Tryz.prog f args w R)
    (h : ∀ e X, R e X → ∃ V, e = .returned V ∧ S X ∧ wpAnyH Tryz.prog md ops Q S fuel (listed.setIfInBounds i true) (a.put dst V) X) (hs : AllReadyH Tryz.prog md ops Q S fuel listed a w rs) : AllReadyH Tryz.prog md ops Q S fuel listed a w (i :: rs) := by
  subst hd
  refine AllReadyH.cons hi (fun K hK => ?_) hs
  rw [if_pos hw]
  unfold Oper.wp
  rw [he, Oper.upon_enter]
  refine hC.mono ?_
  intro e X hR
  obtain ⟨V, rfl, hSX, hV⟩ := h e X hR
  exact hK.out _ _ hSX (fun _ => hV)
theorem row41 : ∃ d, Tryz.prog.underlying 41 = some d ∧ d.isRow = true := ⟨_, Tryz.underlying41, rfl⟩
theorem siz41 : (Tryz.prog.info? 41).map (·.size) = some 23 := by kernel_rfl
theorem put12e (T : TT) (k : KK) (d : DD) (w : World) (hT : T.Is w) (hU : Lib.Utf8Tabs 2 3 w) (hk : OkK k) (hl : T.last < 1000000) (hTT : ∀ b ∈ T.blocks, 4 ≤ b) : Calls Tryz.prog 12 #[.pointer (some ⟨T.t, 0, none⟩), k.agg, d.agg] w fun e w' => e = .returned (.int .i64 (errOf k)) ∧ ∃ T' : TT, T'.Is w' ∧ T'.t = T.t ∧ Fr w w' T.blocks ∧ (∀ b ∈ T'.blocks, b ∈ T.blocks ∨ w.heap.size ≤ b) ∧ PutT T k d T' := put12 T k d w hT hU hk hl hTT
theorem below_dr {n : Nat} {a w : World} (h : Below n a w) : Below n a w.drew := ⟨h.os, h.tape, h.output, h.size, h.block⟩
set_option maxRecDepth 100000 in
theorem play_put (S : PS) (k : KK) (d : DD) (nn : Int) (inner : Value) (dep : Int) (w : World) (base N : Nat) (hS : S.Is w base N) (hN : N < 3000) (hU : Lib.Utf8Tabs 2 3 w) (hk : OkK k) : Calls Tryz.prog 8 #[.pointer (some ⟨S.P, 0, none⟩), actV 1 k d nn inner, .int .i64 dep] w fun e w' => e = .returned (.bool true) ∧ ∃ S', S'.Is w' base (N + 1) ∧ Went S S' w w' := by
  have HU := hide (And.intro hU hk)
  clear hU hk
  have HP := hide hS.bs.hold
  have HLT := hide hS.bs.lt
  have HS := hide hS
  clear hS
  unfold actV
  go_enter Tryz.func8, Tryz.ntmps8
  go_wp2_with (first | go_skip | (refine bx 41 (actCs 1 k d nn inner) (by rfl) rfl rfl rfl (Nat.succ_pos _) (Hq.nil w []) ?_; intro w1 B hB L1 hb1; replace HP := hide ((unhide HS).bs.on hb1).hold; replace HS := hide ((unhide HS).on hb1); have LL := hide L1; have HB1 := hide hb1; have HB := hide hB; clear hB L1 hb1; simp only [Act.put, List.setIfInBounds_toArray, List.set_cons_succ, List.set_cons_zero]) | (refine rd (by rfl) (ex_load1 26 Tryz.isAgg26 rfl rfl (unhide HP) rfl) ?_; simp only [Act.put, List.setIfInBounds_toArray, List.set_cons_succ, List.set_cons_zero]) | (refine rd (by rfl) (ex_load1 28 Tryz.isAgg28 rfl rfl (unhide HP) rfl) ?_; simp only [Act.put, List.setIfInBounds_toArray, List.set_cons_succ, List.set_cons_zero]) | (refine rd (by rfl) (ex_load1 3 Tryz.isAgg3 rfl rfl ((unhide LL).get 0 rfl) rfl) ?_; simp only [Act.put, List.setIfInBounds_toArray, List.set_cons_succ, List.set_cons_zero]))
  refine wp_region_held_drew (P := Tryz.prog) (S := fun X => Holds X B (actCs 1 k d nn inner)) (by kernel_rfl) (((unhide LL).get 0 rfl).block rfl) (fun hS0 => ?_)
  refine gsem 0 (some 32) (.pointer (some ⟨S.T0.t, 0, none⟩)) rfl (by kernel_rfl) (by kernel_rfl) (by kernel_rfl) (fun _ _ _ h => h) (by kernel_rfl) (by kernel_rfl) (fun _ _ => by kernel_rfl) hS0 ?_
  simp only [Act.put, List.setIfInBounds_toArray, List.set_cons_succ, List.set_cons_zero]
  refine gsem 1 (some 33) (.pointer (some ⟨B, 1, none⟩)) rfl (by kernel_rfl) (by kernel_rfl) (by kernel_rfl) (fun _ _ _ h => h) (by kernel_rfl) (by kernel_rfl) (fun _ _ => by kernel_rfl) hS0 ?_
  simp only [Act.put, List.setIfInBounds_toArray, List.set_cons_succ, List.set_cons_zero]
  refine gsem 2 (some 34) (k.agg) rfl (by kernel_rfl) (by kernel_rfl) (by kernel_rfl) (fun _ _ _ h => h) (by kernel_rfl) (by kernel_rfl) (fun X hX => ex_loadN (vs := k.cs) 33 2 row33x siz33 rfl rfl (hX) rfl rfl) hS0 ?_
  simp only [Act.put, List.setIfInBounds_toArray, List.set_cons_succ, List.set_cons_zero]
  refine gsem 3 (some 35) (.pointer (some ⟨B, 3, none⟩)) rfl (by kernel_rfl) (by kernel_rfl) (by kernel_rfl) (fun _ _ _ h => h) (by kernel_rfl) (by kernel_rfl) (fun _ _ => by kernel_rfl) hS0 ?_
  simp only [Act.put, List.setIfInBounds_toArray, List.set_cons_succ, List.set_cons_zero]
  refine gsem 4 (some 36) (d.agg) rfl (by kernel_rfl) (by kernel_rfl) (by kernel_rfl) (fun _ _ _ h => h) (by kernel_rfl) (by kernel_rfl) (fun X hX => ex_loadN (vs := d.cs) 39 18 row39 siz39 rfl rfl (hX) rfl rfl) hS0 ?_
  simp only [Act.put, List.setIfInBounds_toArray, List.set_cons_succ, List.set_cons_zero]
  refine gsem 7 (some 39) (.pointer (some ⟨S.R0.t, 0, none⟩)) rfl (by kernel_rfl) (by kernel_rfl) (by kernel_rfl) (fun _ _ _ h => h) (by kernel_rfl) (by kernel_rfl) (fun _ _ => by kernel_rfl) hS0 ?_
  simp only [Act.put, List.setIfInBounds_toArray, List.set_cons_succ, List.set_cons_zero]
  refine gsem 8 (some 40) (.pointer (some ⟨B, 1, none⟩)) rfl (by kernel_rfl) (by kernel_rfl) (by kernel_rfl) (fun _ _ _ h => h) (by kernel_rfl) (by kernel_rfl) (fun _ _ => by kernel_rfl) hS0 ?_
  simp only [Act.put, List.setIfInBounds_toArray, List.set_cons_succ, List.set_cons_zero]
  refine gsem 9 (some 41) (k.agg) rfl (by kernel_rfl) (by kernel_rfl) (by kernel_rfl) (fun _ _ _ h => h) (by kernel_rfl) (by kernel_rfl) (fun X hX => ex_loadN (vs := k.cs) 33 2 row33x siz33 rfl rfl (hX) rfl rfl) hS0 ?_
  simp only [Act.put, List.setIfInBounds_toArray, List.set_cons_succ, List.set_cons_zero]
  refine gsem 10 (some 42) (.pointer (some ⟨B, 3, none⟩)) rfl (by kernel_rfl) (by kernel_rfl) (by kernel_rfl) (fun _ _ _ h => h) (by kernel_rfl) (by kernel_rfl) (fun _ _ => by kernel_rfl) hS0 ?_
  simp only [Act.put, List.setIfInBounds_toArray, List.set_cons_succ, List.set_cons_zero]
  refine gsem 11 (some 43) (d.agg) rfl (by kernel_rfl) (by kernel_rfl) (by kernel_rfl) (fun _ _ _ h => h) (by kernel_rfl) (by kernel_rfl) (fun X hX => ex_loadN (vs := d.cs) 39 18 row39 siz39 rfl rfl (hX) rfl rfl) hS0 ?_
  simp only [Act.put, List.setIfInBounds_toArray, List.set_cons_succ, List.set_cons_zero]
  have h1 := (unhide HS).drew
  have hz := (unhide HS).last.1
  have hes := (unhide HS).es0
  have hnx := (unhide HS).nx
  refine wpAnyH_ready (rs := [5]) (by kernel_rfl) (by simp) (gcallR 5 (some 37) rfl (by kernel_rfl) (by kernel_rfl) (by kernel_rfl) (put12e S.T0 k d w1.drew h1.bs.t0 (tabs_fr (unhide HU).1 (Fr.of_below (below_dr (unhide HB1)) []) (by simp)) (unhide HU).2 (by omega) h1.bs.four0) ?_ AllReadyH.nil)
  rintro _ w2 ⟨rfl, T', hT', ht, hf, hb, hp⟩
  have hBS : B < w1.drew.heap.size := hS0.lt (Nat.succ_pos _)
  have hB2 : B ∉ S.T0.blocks := fun h => by
    have := (unhide HLT) S.T0.blocks (by simp [PS.parts]) B h
    have e := unhide HB
    omega
  have hB3 : B ∉ S.R0.blocks := fun h => by
    have := (unhide HLT) S.R0.blocks (by simp [PS.parts]) B h
    have e := unhide HB
    omega
  have hS2 : Holds w2 B (actCs 1 k d nn inner) := hS0.block (hf.block B hBS hB2)
  obtain ⟨hbs2, hwn2⟩ := h1.bs.table0 hT' ht hf hb
  refine ⟨_, rfl, hS2, ?_⟩
  simp only [Act.put, List.setIfInBounds_toArray, List.set_cons_succ, List.set_cons_zero]
  refine wpAnyH_ready (rs := [6]) (by kernel_rfl) (by simp) (gcallR 6 (some 38) rfl (by kernel_rfl) (by kernel_rfl) (by kernel_rfl) (num11 (errOf k) (errOf_le k) w2) ?_ AllReadyH.nil)
  rintro _ w3 ⟨rfl, hb3⟩
  have hS3 : Holds w3 B (actCs 1 k d nn inner) := hS2.block (hb3.block B (hS2.lt (Nat.succ_pos _)))
  have hbs3 := hbs2.on hb3
  refine ⟨_, rfl, hS3, ?_⟩
  simp only [Act.put, List.setIfInBounds_toArray, List.set_cons_succ, List.set_cons_zero]
  refine wpAnyH_ready (rs := [12]) (by kernel_rfl) (by simp) (gcallR 12 (some 44) rfl (by kernel_rfl) (by kernel_rfl) (by kernel_rfl) (refPut13 S.R0 k d w3 hbs3.r0 (by omega) ⟨hnx.1, by omega⟩) ?_ AllReadyH.nil)
  rintro _ w4 ⟨rfl, R', hR', htr, hfr, hbr, hnr, hq⟩
  obtain ⟨hbs4, hwn4⟩ := hbs3.doc0 hR' htr hfr hbr
  have hS4 : Holds w4 B (actCs 1 k d nn inner) := hS3.block (hfr.block B (hS3.lt (Nat.succ_pos _)) hB3)
  have FIN : Hid (∃ S', PS.Is S' w4 base (N + 1) ∧ Went S S' w w4) := hide ⟨_, ⟨hbs4, rel_put h1.rel0 h1.bs.t0 hp hq, h1.rel1, ⟨Nat.le_trans hp.last (by omega), Nat.le_trans h1.last.2 (Nat.le_succ _)⟩, ⟨by rcases hnr with e | e <;> (show 0 ≤ R'.nx; omega), by rcases hnr with e | e <;> (show R'.nx ≤ ((N + 1 : Nat) : Int); omega), hnx.2.2.1, by have := hnx.2.2.2; show S.R1.nx ≤ ((N + 1 : Nat) : Int); omega⟩⟩, (Went.refl S (below_dr (unhide HB1))).trans (hwn2.trans ((Went.refl _ hb3).trans hwn4))⟩
  refine ⟨_, rfl, hS4, ?_⟩
  clear hbs4 hwn4 hR' htr hfr hbr hnr hq hbs3 hS3 hb3 hbs2 hwn2 hS2 hT' ht hf hb hp hBS hB2 hB3 hz hes hnx h1 hS0
  simp only [Act.put, List.setIfInBounds_toArray, List.set_cons_succ, List.set_cons_zero]
  refine gbin 13 (some 45) (b := .eql) (t := 3) (t2 := 3) (x := .tmp 38) (y := .tmp 44) (vx := .int .i64 (errOf k)) (vy := .int .i64 (errOf k)) (.bool true) rfl (by kernel_rfl) (by kernel_rfl) (by kernel_rfl) (fun _ _ _ h => h) (by kernel_rfl) (by kernel_rfl) (by kernel_rfl) (by kernel_rfl) (by kernel_rfl) (fun w => eqlI (errOf k) w) (fun _ => by kernel_rfl) hS4 ?_
  simp only [Act.put, List.setIfInBounds_toArray, List.set_cons_succ, List.set_cons_zero]
  refine gsem 14 (some 6) (.bool true) rfl (by kernel_rfl) (by kernel_rfl) (by kernel_rfl) (fun _ _ _ h => h) (by kernel_rfl) (by kernel_rfl) (fun _ _ => by kernel_rfl) hS4 ?_
  simp only [Act.put, List.setIfInBounds_toArray, List.set_cons_succ, List.set_cons_zero]
  refine wpAnyH_done (by kernel_rfl) ?_ _
  try simp only [Act.put, List.setIfInBounds_toArray, List.set_cons_succ, List.set_cons_zero]
  clear hS4
  go_wp2
  go_ret
  exact ⟨rfl, unhide FIN⟩
end Go.Proofs.YtpbdidnphkkenaaGreatDoor

/-! Ni -/
namespace Go.Proofs.YtpbdidnphkkenaaGreatDoor
open Go Go.Proofs Go.Maps Go.RowKit
set_option linter.unusedSimpArgs false
set_option linter.unusedVariables false
set_option maxHeartbeats 1000000
set_option maxRecDepth 100000 in
theorem play_get (S : PS) (k : KK) (d : DD) (nn : Int) (inner : Value) (dep : Int) (w : World) (base N : Nat) (hS : S.Is w base N) (hN : N < 3000) (hk : OkK k) : Calls Tryz.prog 8 #[.pointer (some ⟨S.P, 0, none⟩), actV 5 k d nn inner, .int .i64 dep] w fun e w' => e = .returned (.bool true) ∧ Below w.heap.size w w' := by
  have hr := hS.rel0.getD k
  have hr2 := hS.rel0.some k
  have hes := hS.es0
  obtain ⟨dd, hdd⟩ : ∃ dd, dd = getD S.T0 k := ⟨_, rfl⟩
  obtain ⟨ff, hff⟩ : ∃ ff, ff = (S.T0.find k).isSome := ⟨_, rfl⟩
  have C19 : Hid (∀ X, Below w.heap.size w X → Calls Tryz.prog 19 #[.pointer (some ⟨S.T0.t, 0, none⟩), k.agg] X fun e w' => e = .returned (.tuple #[dd.agg, .bool ff]) ∧ Below X.heap.size X w') := hide (fun X hX => by rw [hdd, hff]; exact get19 S.T0 k X (hS.bs.t0.on hX) hk)
  have C20 : Hid (∀ X, Below w.heap.size w X → Calls Tryz.prog 20 #[.pointer (some ⟨S.R0.t, 0, none⟩), k.agg] X fun e w' => e = .returned (.tuple #[dd.agg, .bool ff]) ∧ Below X.heap.size X w') := hide (fun X hX => by rw [hdd, hff, hr, hr2]; exact refGet20 S.R0 k X (hS.bs.r0.on hX) (by omega))
  clear hdd hff hr hr2 hes hk
  have HP := hide hS.bs.hold
  have HLT := hide hS.bs.lt
  have HS := hide hS
  clear hS
  unfold actV
  go_enter Tryz.func8, Tryz.ntmps8
  go_wp2_with (first | go_skip | (refine bx 41 (actCs 5 k d nn inner) (by rfl) rfl rfl rfl (Nat.succ_pos _) (Hq.nil w []) ?_; intro w1 B hB L1 hb1; replace HP := hide ((unhide HS).bs.on hb1).hold; replace HS := hide ((unhide HS).on hb1); have LL := hide L1; have HB1 := hide hb1; have HB := hide hB; clear hB L1 hb1; simp only [Act.put, List.setIfInBounds_toArray, List.set_cons_succ, List.set_cons_zero]) | (refine rd (by rfl) (ex_load1 26 Tryz.isAgg26 rfl rfl (unhide HP) rfl) ?_; simp only [Act.put, List.setIfInBounds_toArray, List.set_cons_succ, List.set_cons_zero]) | (refine rd (by rfl) (ex_load1 28 Tryz.isAgg28 rfl rfl (unhide HP) rfl) ?_; simp only [Act.put, List.setIfInBounds_toArray, List.set_cons_succ, List.set_cons_zero]) | (refine rd (by rfl) (ex_load1 3 Tryz.isAgg3 rfl rfl ((unhide LL).get 0 rfl) rfl) ?_; simp only [Act.put, List.setIfInBounds_toArray, List.set_cons_succ, List.set_cons_zero]) | (refine rd (by rfl) (ex_loadN (vs := k.cs) 33 2 row33x siz33 rfl rfl ((unhide LL).get 0 rfl) rfl rfl) ?_; simp only [Act.put, List.setIfInBounds_toArray, List.set_cons_succ, List.set_cons_zero]))
  refine ((unhide C19) w1 (unhide HB1)).mono ?_
  rintro _ w2 ⟨rfl, hb2⟩
  replace LL := hide ((unhide LL).on hb2)
  clear HS HP HB HB1 hb2
  have HG : Hid (w.heap.size ≤ w2.heap.size) := hide (unhide LL).fr.size
  unfold DD.agg
  go_wp2_with (first | go_skip | (refine al39 (by rfl) rfl (unhide LL) ?_; intro w3 B3 hB3 L3 hb3; replace LL := hide L3; replace HG : Hid (w.heap.size ≤ B3) := hide (hB3 ▸ unhide HG); clear L3 hB3 hb3; simp only [Act.put, List.setIfInBounds_toArray, List.set_cons_succ, List.set_cons_zero]) | (refine st (vs := dd.cs) 1 39 (by rfl) rfl rfl rfl rfl (by simp [DD.cs, VV.cs, Value.oneCell']) siz39 (unhide LL) rfl (by simp [dcs_length, zeroD, zeroV]) (Or.inr (unhide HG)) ?_; intro w3 L3 hf3 hs3; replace LL := hide L3; clear L3 hf3 hs3; simp only [Act.put, List.setIfInBounds_toArray, List.set_cons_succ, List.set_cons_zero]) | (refine rd (by rfl) (ex_loadN (vs := k.cs) 33 2 row33x siz33 rfl rfl ((unhide LL).get 0 rfl) rfl rfl) ?_; simp only [Act.put, List.setIfInBounds_toArray, List.set_cons_succ, List.set_cons_zero]))
  refine ((unhide C20) w3 (unhide LL).fr.below).mono ?_
  rintro _ w4 ⟨rfl, hb4⟩
  replace LL := hide ((unhide LL).on hb4)
  clear hb4
  replace HG : Hid (w.heap.size ≤ w4.heap.size) := hide (unhide LL).fr.size
  unfold DD.agg
  go_wp2_with (first | go_skip | (refine al39 (by rfl) rfl (unhide LL) ?_; intro w3 B3 hB3 L3 hb3; replace LL := hide L3; replace HG : Hid (w.heap.size ≤ B3) := hide (hB3 ▸ unhide HG); clear L3 hB3 hb3; simp only [Act.put, List.setIfInBounds_toArray, List.set_cons_succ, List.set_cons_zero]) | (refine st (vs := dd.cs) 2 39 (by rfl) rfl rfl rfl rfl (by simp [DD.cs, VV.cs, Value.oneCell']) siz39 (unhide LL) rfl (by simp [dcs_length, zeroD, zeroV]) (Or.inr (unhide HG)) ?_; intro w3 L3 hf3 hs3; replace LL := hide L3; clear L3 hf3 hs3; simp only [Act.put, List.setIfInBounds_toArray, List.set_cons_succ, List.set_cons_zero]) | (refine rd (by rfl) (ex_loadN (vs := dd.cs) 39 18 row39 siz39 rfl rfl ((unhide LL).get 1 rfl) rfl rfl) ?_; simp only [Act.put, List.setIfInBounds_toArray, List.set_cons_succ, List.set_cons_zero]) | (refine rd (by rfl) (ex_loadN (vs := dd.cs) 39 18 row39 siz39 rfl rfl ((unhide LL).get 2 rfl) rfl rfl) ?_; simp only [Act.put, List.setIfInBounds_toArray, List.set_cons_succ, List.set_cons_zero]))
  refine (sameDesc21 dd _).mono ?_
  rintro _ w5 ⟨rfl, hb5⟩
  replace LL := hide ((unhide LL).on hb5)
  clear hb5
  go_wp2
  go_ret
  exact ⟨rfl, (unhide LL).fr.below⟩
end Go.Proofs.YtpbdidnphkkenaaGreatDoor

/-! Nf -/
namespace Go.Proofs.YtpbdidnphkkenaaGreatDoor
open Go Go.Proofs Go.Maps Go.RowKit
set_option linter.unusedSimpArgs false
set_option linter.unusedVariables false
set_option maxHeartbeats 1000000
theorem own_some {w : World} {base e s n : Nat} {A : Option Addr} {c : Nat} {xs : List Value} (h : w.ownsRow base e s (.slice A n c) n xs) (hn : 0 < n) : ∃ g, A = some ⟨g, 0, none⟩ ∧ base ≤ g ∧ g < w.heap.size := by
  rcases h.2 with ⟨h1, h2⟩ | ⟨g, cap, cur, h1, h2⟩
  · omega
  · have hA : A = some ⟨g, 0, none⟩ := by injection h1
    subst hA
    have := World.ownsRow.lt h g rfl
    exact ⟨g, rfl, this.1, this.2⟩
theorem own_len {w : World} {base e s n : Nat} {v : Value} {xs : List Value} (h : w.ownsRow base e s v n xs) : xs.length = n * s := h.1
theorem stx {ops : Array Oper} {rest : List Oper} {Q : Exit → Act → World → Prop} {w : World} {a : Act} {o : Oper} {t : TypeId} {b p : Nat} {cs vs : List Value} {v : Value} {x y : Operand} (hw : Region.wanted o (yielded ops a.tmps) = true) (ho : o.op = .store t x y) (hx : a.eval x = .pointer (some ⟨b, p, none⟩)) (hy : a.eval y = v) (hv : v.cells.toList = vs) (h1 : ∀ u ∈ vs, u.oneCell' = true) (hi : (Tryz.prog.info? t).map (·.size) = some vs.length) (hH : Holds w b cs) (hp : p + vs.length ≤ cs.length)
    (h : wpList Tryz.prog ops Q rest (a.put o.dst undef) (w.setCells b p vs)) : wpList Tryz.prog ops Q (o :: rest) a w := by
  refine BigFrame.wpList_want hw fun K hK => ?_
  have hP := hK _ _ h
  unfold Oper.wp
  rw [ex_store ho hx hy hv h1 hi hH hp]
  exact hP
theorem ordK_len (l : List KK) : (ordK l).length ≤ 3 * l.length := by
  unfold ordK outK strs syms
  rw [List.length_append, List.length_append, List.length_map, mg_len]
  have h1 := ixs_len l
  have h2 := List.length_filter_le (fun k => kd k == 1) l
  have h3 := List.length_filter_le (fun k => kd k == 2) l
  omega
def minusK : KK := ⟨ByteArray.empty, -5⟩
theorem ex_build33m {o : Oper} {a : Act} {w : World} {c : Operand} (ho : o.op = .build 33 #[(1, c)]) (hc : a.eval c = .int .i64 (-5)) : (execOp a.eval o).run Tryz.prog w = .ok (.value (.agg minusK.cs.toArray)) w := by
  have e : (Instr.build 33 #[(1, .int .i64 (-5))]).run Tryz.prog w = .ok (.agg minusK.cs.toArray) w := by kernel_rfl
  unfold execOp
  simp only [ho, List.map_toArray, List.map_cons, List.map_nil, hc]
  simp [e]
theorem ex_build58m {o : Oper} {a : Act} {w : World} {c : Operand} (ho : o.op = .build 58 #[(0, c)]) (hc : a.eval c = .agg minusK.cs.toArray) : (execOp a.eval o).run Tryz.prog w = .ok (.value (.agg (minusK.cs ++ zeroD.cs).toArray)) w := by
  have e : (Instr.build 58 #[(0, .agg minusK.cs.toArray)]).run Tryz.prog w = .ok (.agg (minusK.cs ++ zeroD.cs).toArray) w := by kernel_rfl
  unfold execOp
  simp only [ho, List.map_toArray, List.map_cons, List.map_nil, hc]
  simp [e]
theorem one58m : ∀ u ∈ minusK.cs ++ zeroD.cs, u.oneCell' = true := by simp [minusK, zeroD, zeroV, KK.cs, DD.cs, VV.cs, Value.oneCell']
theorem siz58m : (Tryz.prog.info? 58).map (·.size) = some (minusK.cs ++ zeroD.cs).length := siz58.trans (by rw [show (minusK.cs ++ zeroD.cs).length = 20 from rfl])
theorem siz33m : (Tryz.prog.info? 33).map (·.size) = some minusK.cs.length := siz33.trans (by rw [show minusK.cs.length = 2 from rfl])
theorem cel58m : (Value.agg (minusK.cs ++ zeroD.cs).toArray).cells.toList = minusK.cs ++ zeroD.cs := rfl
theorem cel33m : (Value.agg minusK.cs.toArray).cells.toList = minusK.cs := rfl
theorem one33m : ∀ u ∈ minusK.cs, u.oneCell' = true := by simp [minusK, KK.cs, Value.oneCell']
/-- The rows that were handed out are written over: ours alone. -/
structure Over (w6 wr : World) (A : Option Addr) (n c base e s : Nat) : Prop where
  own : ∃ xs, wr.ownsRow base e s (.slice A n c) n xs
  size : wr.heap.size = w6.heap.size
  os : wr.os = w6.os ∧ wr.tape = w6.tape ∧ wr.output = w6.output
  block : ∀ b, (Value.slice A n c).ownBlock ≠ some b → wr.heap[b]? = w6.heap[b]?
theorem Over.start {w : World} {A : Option Addr} {n c base e s : Nat} {xs : List Value} (h : w.ownsRow base e s (.slice A n c) n xs) : Over w w A n c base e s := ⟨⟨xs, h⟩, rfl, ⟨rfl, rfl, rfl⟩, fun _ _ => rfl⟩
theorem Over.step {w6 wr : World} {g n c base e s p : Nat} {vs : List Value} (h : Over w6 wr (some ⟨g, 0, none⟩) n c base e s) (hp : p + vs.length ≤ n * s) : Over w6 (wr.setCells g p vs) (some ⟨g, 0, none⟩) n c base e s := by
  obtain ⟨⟨xs, h1⟩, h2, h3, h4⟩ := h
  have hl := own_len h1
  refine ⟨⟨_, own_set h1 (by omega)⟩, by rw [size_setCells]; exact h2, ?_, fun b hb => ?_⟩
  · obtain ⟨k1, k2, k3⟩ := os_setCells g vs p wr
    exact ⟨k1.trans h3.1, k2.trans h3.2.1, k3.trans h3.2.2⟩
  · rw [heap_setCells g vs p wr b (fun e => hb (by rw [e]; rfl))]
    exact h4 b hb
theorem Over.below {w w6 wr : World} {A : Option Addr} {n c base e s m : Nat} (h : Over w6 wr A n c base e s) (hb : Below m w w6) (hm : m ≤ base) : Below m w wr := by
  obtain ⟨⟨xs, h1⟩, h2, h3, h4⟩ := h
  refine ⟨h3.1.trans hb.os, h3.2.1.trans hb.tape, h3.2.2.trans hb.output, by rw [h2]; exact hb.size, fun b hbm => ?_⟩
  rw [h4 b (fun e => ?_)]
  · exact hb.block b hbm
  · have := (World.ownsRow.lt h1 b e).1
    omega
set_option maxRecDepth 100000 in
theorem tells9_0 (T : TT) (R : RT) (P t1 r1 : Nat) (left : Int) (w : World) (hP : Holds w P (pairCs T.t t1 R.t r1 left)) (hT : T.Is w) (hR : R.Is w) (hrel : Rel T R) (hlast : T.last < 1000000) (hl : T.live.length ≤ 3000) (hU : Lib.Utf8Tabs 2 3 w) (hTP : TabP w) :
    Calls Tryz.prog 9 #[.pointer (some ⟨P, 0, none⟩), .int .i64 0] w fun e w' => e = .returned (.bool true) ∧ Below w.heap.size w w' := by
  have hrl := hrel.len
  have hrk := hrel.keys
  have hrg := hrel.good hT
  obtain ⟨n, hn⟩ : ∃ n, n = T.live.length := ⟨_, rfl⟩
  obtain ⟨pl, hpl⟩ : ∃ pl, pl = T.live.map RR.pr := ⟨_, rfl⟩
  obtain ⟨kl, hkl⟩ : ∃ kl, kl = ordK (T.live.map (·.k)) := ⟨_, rfl⟩
  have hplen : pl.length = n := by rw [hpl, hn]; simp
  have hklen : kl.length ≤ 100000 := by
    have := ordK_len (T.live.map (·.k))
    rw [← hkl, List.length_map] at this
    omega
  have HP := hide hP
  have C27 : Hid (∀ X, Below w.heap.size w X → Calls Tryz.prog 27 #[.pointer (some ⟨T.t, 0, none⟩)] X fun e w' => ∃ v, e = .returned v ∧ w'.ownsRow X.heap.size 58 20 v n (flatP pl) ∧ Below X.heap.size X w') := hide (fun X hX => by rw [hn, hpl]; exact props27 T X (hT.on hX) hlast (by omega))
  have C28 : Hid (∀ X, Below w.heap.size w X → Calls Tryz.prog 28 #[.pointer (some ⟨T.t, 0, none⟩)] X fun e w' => ∃ v, e = .returned v ∧ OwnK w' X.heap.size v kl ∧ Below X.heap.size X w') := hide (fun X hX => by rw [hkl]; exact keys28 T X (hT.on hX) hlast (by omega) (tabs_fr hU (Fr.of_below hX []) (by simp)) (hTP.on hX))
  have C23 : Hid (∀ X, Below w.heap.size w X → Calls Tryz.prog 23 #[.pointer (some ⟨R.t, 0, none⟩)] X fun e w' => ∃ v, e = .returned v ∧ w'.ownsRow X.heap.size 58 20 v n (flatP pl) ∧ Below X.heap.size X w') := hide (fun X hX => by rw [hn, hpl, hrl, hrel]; exact refProps23 R X (hR.on hX) (by omega))
  have C29 : Hid (∀ X, Below w.heap.size w X → Calls Tryz.prog 29 #[.pointer (some ⟨R.t, 0, none⟩)] X fun e w' => ∃ v, e = .returned v ∧ OwnK w' X.heap.size v kl ∧ Below X.heap.size X w') := hide (fun X hX => by rw [hkl, hrk]; exact refKeys29 R X (hR.on hX) (by omega) hrg)
  have C30 : Hid (∀ X, Below w.heap.size w X → Calls Tryz.prog 30 #[.pointer (some ⟨T.t, 0, none⟩)] X fun e w' => e = .returned (.int .i64 n) ∧ w' = X) := hide (fun X hX => by rw [hn]; exact len30 T X (hT.on hX))
  have C31 : Hid (∀ (X : World) (v u : Value) (b1 b2 : Nat), X.ownsRow b1 58 20 v n (flatP pl) → X.ownsRow b2 58 20 u n (flatP pl) → Calls Tryz.prog 31 #[v, u] X fun e w' => e = .returned (.bool true) ∧ Below X.heap.size X w') := hide (fun X v u b1 b2 h1 h2 => sameProps31 v u b1 b2 pl X (by rw [hplen]; exact h1) (by rw [hplen]; exact h2) (by omega))
  have C32 : Hid (∀ (X : World) (v u : Value) (b1 b2 : Nat), OwnK X b1 v kl → OwnK X b2 u kl → Calls Tryz.prog 32 #[v, u] X fun e w' => e = .returned (.bool true) ∧ Below X.heap.size X w') := hide (fun X v u b1 b2 h1 h2 => sameKeys32 v u kl X h1.reads h2.reads hklen)
  have hn3 : n ≤ 3000 := by omega
  have hk3 : kl.length ≤ 100000 := hklen
  clear hP hT hR hrel hlast hl hU hTP hrl hrk hrg hn hpl hkl hplen hklen
  go_enter Tryz.func9, Tryz.ntmps9
  go_wp2_with (first | go_skip | (refine rd (by rfl) (ex_load1 26 Tryz.isAgg26 rfl rfl (unhide HP) rfl) ?_; simp only [Act.put, List.setIfInBounds_toArray, List.set_cons_succ, List.set_cons_zero]) | (refine rd (by rfl) (ex_load1 28 Tryz.isAgg28 rfl rfl (unhide HP) rfl) ?_; simp only [Act.put, List.setIfInBounds_toArray, List.set_cons_succ, List.set_cons_zero]))
  have Hw : Hid (Below w.heap.size w w) := hide (Below.refl _ _)
  refine ((unhide C27) w (unhide Hw)).mono ?_
  rintro _ w1 ⟨va, rfl, hO, hb⟩
  have Hw1 : Hid (Below w.heap.size w w1) := hide (hb)
  have Ova := hide hO
  have Kw1 := hide hb
  clear hO hb
  go_wp2_with fail
  refine ((unhide C27) w1 (unhide Hw1)).mono ?_
  rintro _ w2 ⟨vb, rfl, hO, hb⟩
  have Hw2 : Hid (Below w.heap.size w w2) := hide ((unhide Hw1).trans (hb.mono (unhide Hw1).size))
  have Ovb := hide hO
  have Kw2 := hide hb
  clear hO hb
  go_wp2_with fail
  refine ((unhide C28) w2 (unhide Hw2)).mono ?_
  rintro _ w3 ⟨vc, rfl, hO, hb⟩
  have Hw3 : Hid (Below w.heap.size w w3) := hide ((unhide Hw2).trans (hb.mono (unhide Hw2).size))
  have Ovc := hide hO
  have Kw3 := hide hb
  clear hO hb
  go_wp2_with fail
  refine ((unhide C28) w3 (unhide Hw3)).mono ?_
  rintro _ w4 ⟨vd, rfl, hO, hb⟩
  have Hw4 : Hid (Below w.heap.size w w4) := hide ((unhide Hw3).trans (hb.mono (unhide Hw3).size))
  have Ovd := hide hO
  have Kw4 := hide hb
  clear hO hb
  go_wp2_with fail
  refine ((unhide C23) w4 (unhide Hw4)).mono ?_
  rintro _ w5 ⟨vp, rfl, hO, hb⟩
  have Hw5 : Hid (Below w.heap.size w w5) := hide ((unhide Hw4).trans (hb.mono (unhide Hw4).size))
  have Ovp := hide hO
  have Kw5 := hide hb
  clear hO hb
  go_wp2_with fail
  refine ((unhide C29) w5 (unhide Hw5)).mono ?_
  rintro _ w6 ⟨vk, rfl, hO, hb⟩
  have Hw6 : Hid (Below w.heap.size w w6) := hide ((unhide Hw5).trans (hb.mono (unhide Hw5).size))
  have Ovk := hide hO
  have Kw6 := hide hb
  clear hO hb
  have hab : Hid (∀ b, va.ownBlock = some b → w.heap.size ≤ b ∧ b < w1.heap.size) := hide (fun b hb => World.ownsRow.lt (unhide Ova) b hb)
  have hbb : Hid (∀ b, vb.ownBlock = some b → w1.heap.size ≤ b ∧ b < w2.heap.size) := hide (fun b hb => World.ownsRow.lt (unhide Ovb) b hb)
  have hcb : Hid (∀ b, vc.ownBlock = some b → w2.heap.size ≤ b ∧ b < w3.heap.size) := hide (fun b hb => World.ownsRow.lt (unhide Ovc) b hb)
  have hdb : Hid (∀ b, vd.ownBlock = some b → w3.heap.size ≤ b ∧ b < w4.heap.size) := hide (fun b hb => World.ownsRow.lt (unhide Ovd) b hb)
  have hpb : Hid (∀ b, vp.ownBlock = some b → w4.heap.size ≤ b ∧ b < w5.heap.size) := hide (fun b hb => World.ownsRow.lt (unhide Ovp) b hb)
  have hkb : Hid (∀ b, vk.ownBlock = some b → w5.heap.size ≤ b ∧ b < w6.heap.size) := hide (fun b hb => World.ownsRow.lt (unhide Ovk) b hb)
  have B56 := hide (unhide Kw6)
  have B46 := hide ((unhide Kw5).trans ((unhide Kw6).mono (unhide Kw5).size))
  have B36 := hide ((unhide Kw4).trans ((unhide B46).mono (unhide Kw4).size))
  have B26 := hide ((unhide Kw3).trans ((unhide B36).mono (unhide Kw3).size))
  have B16 := hide ((unhide Kw2).trans ((unhide B26).mono (unhide Kw2).size))
  replace Ova := hide (own_block (w' := w6) (unhide Ova) (fun g hg => (unhide B16).block g ((unhide hab) g hg).2))
  replace Ovb := hide (own_block (w' := w6) (unhide Ovb) (fun g hg => (unhide B26).block g ((unhide hbb) g hg).2))
  replace Ovc := hide ((unhide Ovc).block (w' := w6) (fun g hg => (unhide B36).block g ((unhide hcb) g hg).2))
  replace Ovd := hide ((unhide Ovd).block (w' := w6) (fun g hg => (unhide B46).block g ((unhide hdb) g hg).2))
  replace Ovp := hide (own_block (w' := w6) (unhide Ovp) (fun g hg => (unhide B56).block g ((unhide hpb) g hg).2))
  have s1 := hide (And.intro (unhide Kw1).size (And.intro (unhide Kw2).size (And.intro (unhide Kw3).size (And.intro (unhide Kw4).size (And.intro (unhide Kw5).size (unhide Kw6).size)))))
  clear Kw1 Kw2 Kw3 Kw4 Kw5 Kw6 B56 B46 B36 B26 B16 Hw1 Hw2 Hw3 Hw4 Hw5
  obtain ⟨Aa, ca, rfl⟩ := own_form (unhide Ova)
  obtain ⟨Ac, cc, rfl⟩ := own_form (unhide Ovc)
  obtain ⟨Ap, cp, rfl⟩ := own_form (unhide Ovp)
  go_wp2_with fail
  refine ((unhide C30) w6 (unhide Hw6)).mono ?_
  rintro _ x6 ⟨rfl, e6⟩
  rw [e6]
  clear e6 x6
  go_wp2_with fail
  refine ((unhide C31) w6 _ _ _ _ (unhide Ova) (unhide Ovp)).mono ?_
  rintro _ w7 ⟨rfl, hb⟩
  have Hw7 := hide ((unhide Hw6).trans (hb.mono (unhide Hw6).size))
  replace Ova := hide (own_block (w' := w7) (unhide Ova) (fun g hg => hb.block g (World.ownsRow.lt (unhide Ova) g hg).2))
  replace Ovb := hide (own_block (w' := w7) (unhide Ovb) (fun g hg => hb.block g (World.ownsRow.lt (unhide Ovb) g hg).2))
  replace Ovc := hide ((unhide Ovc).on hb)
  replace Ovd := hide ((unhide Ovd).on hb)
  replace Ovp := hide (own_block (w' := w7) (unhide Ovp) (fun g hg => hb.block g (World.ownsRow.lt (unhide Ovp) g hg).2))
  replace Ovk := hide ((unhide Ovk).on hb)
  clear hb
  go_wp2_with fail
  refine ((unhide C31) w7 _ _ _ _ (unhide Ovb) (unhide Ovp)).mono ?_
  rintro _ w8 ⟨rfl, hb⟩
  have Hw8 := hide ((unhide Hw7).trans (hb.mono (unhide Hw7).size))
  replace Ova := hide (own_block (w' := w8) (unhide Ova) (fun g hg => hb.block g (World.ownsRow.lt (unhide Ova) g hg).2))
  replace Ovb := hide (own_block (w' := w8) (unhide Ovb) (fun g hg => hb.block g (World.ownsRow.lt (unhide Ovb) g hg).2))
  replace Ovc := hide ((unhide Ovc).on hb)
  replace Ovd := hide ((unhide Ovd).on hb)
  replace Ovp := hide (own_block (w' := w8) (unhide Ovp) (fun g hg => hb.block g (World.ownsRow.lt (unhide Ovp) g hg).2))
  replace Ovk := hide ((unhide Ovk).on hb)
  clear hb
  go_wp2_with fail
  refine ((unhide C32) w8 _ _ _ _ (unhide Ovc) (unhide Ovk)).mono ?_
  rintro _ w9 ⟨rfl, hb⟩
  have Hw9 := hide ((unhide Hw8).trans (hb.mono (unhide Hw8).size))
  replace Ova := hide (own_block (w' := w9) (unhide Ova) (fun g hg => hb.block g (World.ownsRow.lt (unhide Ova) g hg).2))
  replace Ovb := hide (own_block (w' := w9) (unhide Ovb) (fun g hg => hb.block g (World.ownsRow.lt (unhide Ovb) g hg).2))
  replace Ovc := hide ((unhide Ovc).on hb)
  replace Ovd := hide ((unhide Ovd).on hb)
  replace Ovp := hide (own_block (w' := w9) (unhide Ovp) (fun g hg => hb.block g (World.ownsRow.lt (unhide Ovp) g hg).2))
  replace Ovk := hide ((unhide Ovk).on hb)
  clear hb
  go_wp2_with fail
  refine ((unhide C32) w9 _ _ _ _ (unhide Ovd) (unhide Ovk)).mono ?_
  rintro _ w10 ⟨rfl, hb⟩
  have Hw10 := hide ((unhide Hw9).trans (hb.mono (unhide Hw9).size))
  replace Ova := hide (own_block (w' := w10) (unhide Ova) (fun g hg => hb.block g (World.ownsRow.lt (unhide Ova) g hg).2))
  replace Ovb := hide (own_block (w' := w10) (unhide Ovb) (fun g hg => hb.block g (World.ownsRow.lt (unhide Ovb) g hg).2))
  replace Ovc := hide ((unhide Ovc).on hb)
  replace Ovd := hide ((unhide Ovd).on hb)
  replace Ovp := hide (own_block (w' := w10) (unhide Ovp) (fun g hg => hb.block g (World.ownsRow.lt (unhide Ovp) g hg).2))
  replace Ovk := hide ((unhide Ovk).on hb)
  clear hb
  go_wp2_with fail
  go_loopg [13] n (fun gm s13 wr => ∃ j : Nat, s13 = .int .i64 j ∧ j ≤ n ∧ n - j ≤ gm ∧ Hid (Over w10 wr Aa n ca w.heap.size 58 20))
  case atStart => exact ⟨0, rfl, by omega, by omega, hide (Over.start (unhide Ova))⟩
  case round =>
    obtain ⟨j, rfl, hj, hg, HV⟩ := hrel
    by_cases hjl : j < n
    · have hjz : (j : Int) < n := by omega
      obtain ⟨xs, hxs⟩ := (unhide HV).own
      obtain ⟨g, rfl, hg1, hg2⟩ := own_some hxs (by omega)
      have HH := hide (own_holds hxs)
      have hxl := own_len hxs
      have hp2 : Hid (j * 20 + 20 ≤ n * 20) := hide (by omega)
      have HL : Hid (j * 20 + (minusK.cs ++ zeroD.cs).length ≤ xs.length) := hide (by rw [hxl]; exact unhide hp2)
      clear hg1 hg2 hxl hxs
      go_wp2_with (first | go_skip | ((with_reducible apply rd); (case hw => rfl); (case hy => exact ex_index61 j rfl rfl rfl hjl); simp only [Act.put, List.setIfInBounds_toArray, List.set_cons_succ, List.set_cons_zero]) | ((with_reducible apply rd); (case hw => rfl); (case hy => exact ex_build33m rfl rfl); simp only [Act.put, List.setIfInBounds_toArray, List.set_cons_succ, List.set_cons_zero]) | ((with_reducible apply rd); (case hw => rfl); (case hy => exact ex_build58m rfl rfl); simp only [Act.put, List.setIfInBounds_toArray, List.set_cons_succ, List.set_cons_zero]) | ((with_reducible apply stx (t := 58) (b := g) (p := j * 20) (cs := xs) (vs := minusK.cs ++ zeroD.cs) (x := .tmp 78) (y := .tmp 77) (v := .agg (minusK.cs ++ zeroD.cs).toArray)); (case hw => rfl); (case ho => rfl); (case hx => rfl); (case hy => rfl); (case hv => exact cel58m); (case h1 => exact one58m); (case hi => exact siz58m); (case hH => exact unhide HH); (case hp => exact unhide HL); simp only [Act.put, List.setIfInBounds_toArray, List.set_cons_succ, List.set_cons_zero]))
      go_roundg (n - (j + 1))
      case measure => omega
      case rel => exact ⟨j + 1, by go_num, by omega, Nat.le_refl _, hide ((unhide HV).step (by have := unhide hp2; exact this))⟩
    · have hjz : ¬ (j : Int) < n := by omega
      rename World => x1
      have Hx1 := hide ((unhide HV).below (unhide Hw10) (Nat.le_refl _))
      replace Ovb := hide (own_block (w' := x1) (unhide Ovb) (fun g hg => (unhide HV).block g (fun e => by have h1 := (unhide hab) g e; have h2 := (unhide hbb) g hg; omega)))
      replace Ovc := hide ((unhide Ovc).block (w' := x1) (fun g hg => (unhide HV).block g (fun e => by have h1 := (unhide hab) g e; have h2 := (unhide hcb) g hg; have h3 := unhide s1; omega)))
      replace Ovd := hide ((unhide Ovd).block (w' := x1) (fun g hg => (unhide HV).block g (fun e => by have h1 := (unhide hab) g e; have h2 := (unhide hdb) g hg; have h3 := unhide s1; omega)))
      replace Ovp := hide (own_block (w' := x1) (unhide Ovp) (fun g hg => (unhide HV).block g (fun e => by have h1 := (unhide hab) g e; have h2 := (unhide hpb) g hg; have h3 := unhide s1; omega)))
      replace Ovk := hide ((unhide Ovk).block (w' := x1) (fun g hg => (unhide HV).block g (fun e => by have h1 := (unhide hab) g e; have h2 := (unhide hkb) g hg; have h3 := unhide s1; omega)))
      have hs2 : Hid (w.heap.size ≤ w2.heap.size) := hide (by have h3 := unhide s1; omega)
      clear HV Hw6 Hw7 Hw8 Hw9 Hw10 Ova hab
      go_wp2_with fail
      clear hjz hj hg
      go_loopg [14] kl.length (fun gm s14 wr => ∃ j : Nat, s14 = .int .i64 j ∧ j ≤ kl.length ∧ kl.length - j ≤ gm ∧ Hid (Over x1 wr Ac kl.length cc w2.heap.size 33 2))
      case atStart => exact ⟨0, rfl, by omega, by omega, hide (Over.start (unhide Ovc))⟩
      case round =>
        obtain ⟨j2, rfl, hj, hg, HV⟩ := hrel
        by_cases hjl : j2 < kl.length
        · have hjz : (j2 : Int) < kl.length := by omega
          obtain ⟨xs, hxs⟩ := (unhide HV).own
          obtain ⟨g, rfl, hg1, hg2⟩ := own_some hxs (by omega)
          have HH := hide (own_holds hxs)
          have hxl := own_len hxs
          have hp2 : Hid (0 + j2 * 2 + 2 ≤ kl.length * 2) := hide (by omega)
          have HL : Hid (0 + j2 * 2 + minusK.cs.length ≤ xs.length) := hide (by rw [hxl]; exact unhide hp2)
          clear hg1 hg2 hxl hxs
          go_wp2_with (first | go_skip | ((with_reducible apply rd); (case hw => rfl); (case hy => exact ex_index64 (off := 0) j2 rfl rfl rfl hjl); simp only [Act.put, List.setIfInBounds_toArray, List.set_cons_succ, List.set_cons_zero]) | ((with_reducible apply rd); (case hw => rfl); (case hy => exact ex_build33m rfl rfl); simp only [Act.put, List.setIfInBounds_toArray, List.set_cons_succ, List.set_cons_zero]) | ((with_reducible apply stx (t := 33) (b := g) (p := 0 + j2 * 2) (cs := xs) (vs := minusK.cs) (x := .tmp 88) (y := .tmp 87) (v := .agg minusK.cs.toArray)); (case hw => rfl); (case ho => rfl); (case hx => rfl); (case hy => rfl); (case hv => exact cel33m); (case h1 => exact one33m); (case hi => exact siz33m); (case hH => exact unhide HH); (case hp => exact unhide HL); simp only [Act.put, List.setIfInBounds_toArray, List.set_cons_succ, List.set_cons_zero]))
          go_roundg (kl.length - (j2 + 1))
          case measure => omega
          case rel => exact ⟨j2 + 1, by go_num, by omega, Nat.le_refl _, hide ((unhide HV).step (by have := unhide hp2; show j2 * 2 + 2 ≤ kl.length * 2; omega))⟩
        · have hjz : ¬ (j2 : Int) < kl.length := by omega
          rename World => x2
          have Hx2 := hide ((unhide HV).below (unhide Hx1) (unhide hs2))
          replace Ovb := hide (own_block (w' := x2) (unhide Ovb) (fun g hg => (unhide HV).block g (fun e => by have h1 := (unhide hcb) g e; have h2 := (unhide hbb) g hg; omega)))
          replace Ovd := hide ((unhide Ovd).block (w' := x2) (fun g hg => (unhide HV).block g (fun e => by have h1 := (unhide hcb) g e; have h2 := (unhide hdb) g hg; omega)))
          replace Ovp := hide (own_block (w' := x2) (unhide Ovp) (fun g hg => (unhide HV).block g (fun e => by have h1 := (unhide hcb) g e; have h2 := (unhide hpb) g hg; have h3 := unhide s1; omega)))
          replace Ovk := hide ((unhide Ovk).block (w' := x2) (fun g hg => (unhide HV).block g (fun e => by have h1 := (unhide hcb) g e; have h2 := (unhide hkb) g hg; have h3 := unhide s1; omega)))
          clear HV Ovc hcb Hx1 hj hg
          go_wp2_with fail
          refine ((unhide C31) x2 _ _ _ _ (unhide Ovb) (unhide Ovp)).mono ?_
          rintro _ x3 ⟨rfl, hb⟩
          have Hx3 := hide ((unhide Hx2).trans (hb.mono (unhide Hx2).size))
          replace Ovd := hide ((unhide Ovd).on hb)
          replace Ovp := hide (own_block (w' := x3) (unhide Ovp) (fun g hg => hb.block g (World.ownsRow.lt (unhide Ovp) g hg).2))
          replace Ovk := hide ((unhide Ovk).on hb)
          clear hb
          go_wp2_with fail
          refine ((unhide C32) x3 _ _ _ _ (unhide Ovd) (unhide Ovk)).mono ?_
          rintro _ x4 ⟨rfl, hb⟩
          have Hx4 := hide ((unhide Hx3).trans (hb.mono (unhide Hx3).size))
          replace Ovp := hide (own_block (w' := x4) (unhide Ovp) (fun g hg => hb.block g (World.ownsRow.lt (unhide Ovp) g hg).2))
          clear hb
          go_wp2_with fail
          refine ((unhide C27) x4 (unhide Hx4)).mono ?_
          rintro _ x5 ⟨v9, rfl, hO, hb⟩
          have Hx5 := hide ((unhide Hx4).trans (hb.mono (unhide Hx4).size))
          replace Ovp := hide (own_block (w' := x5) (unhide Ovp) (fun g hg => hb.block g (World.ownsRow.lt (unhide Ovp) g hg).2))
          have Ov9 := hide hO
          clear hb hO
          go_wp2_with fail
          refine ((unhide C31) x5 _ _ _ _ (unhide Ov9) (unhide Ovp)).mono ?_
          rintro _ x6 ⟨rfl, hb⟩
          have Hx6 := hide ((unhide Hx5).trans (hb.mono (unhide Hx5).size))
          clear hb
          go_wp2
          go_ret
          exact ⟨rfl, unhide Hx6⟩
set_option maxRecDepth 100000 in
theorem tells9_1 (T : TT) (R : RT) (P t1 r1 : Nat) (left : Int) (w : World) (hP : Holds w P (pairCs t1 T.t r1 R.t left)) (hT : T.Is w) (hR : R.Is w) (hrel : Rel T R) (hlast : T.last < 1000000) (hl : T.live.length ≤ 3000) (hU : Lib.Utf8Tabs 2 3 w) (hTP : TabP w) :
    Calls Tryz.prog 9 #[.pointer (some ⟨P, 0, none⟩), .int .i64 1] w fun e w' => e = .returned (.bool true) ∧ Below w.heap.size w w' := by
  have hrl := hrel.len
  have hrk := hrel.keys
  have hrg := hrel.good hT
  obtain ⟨n, hn⟩ : ∃ n, n = T.live.length := ⟨_, rfl⟩
  obtain ⟨pl, hpl⟩ : ∃ pl, pl = T.live.map RR.pr := ⟨_, rfl⟩
  obtain ⟨kl, hkl⟩ : ∃ kl, kl = ordK (T.live.map (·.k)) := ⟨_, rfl⟩
  have hplen : pl.length = n := by rw [hpl, hn]; simp
  have hklen : kl.length ≤ 100000 := by
    have := ordK_len (T.live.map (·.k))
    rw [← hkl, List.length_map] at this
    omega
  have HP := hide hP
  have C27 : Hid (∀ X, Below w.heap.size w X → Calls Tryz.prog 27 #[.pointer (some ⟨T.t, 0, none⟩)] X fun e w' => ∃ v, e = .returned v ∧ w'.ownsRow X.heap.size 58 20 v n (flatP pl) ∧ Below X.heap.size X w') := hide (fun X hX => by rw [hn, hpl]; exact props27 T X (hT.on hX) hlast (by omega))
  have C28 : Hid (∀ X, Below w.heap.size w X → Calls Tryz.prog 28 #[.pointer (some ⟨T.t, 0, none⟩)] X fun e w' => ∃ v, e = .returned v ∧ OwnK w' X.heap.size v kl ∧ Below X.heap.size X w') := hide (fun X hX => by rw [hkl]; exact keys28 T X (hT.on hX) hlast (by omega) (tabs_fr hU (Fr.of_below hX []) (by simp)) (hTP.on hX))
  have C23 : Hid (∀ X, Below w.heap.size w X → Calls Tryz.prog 23 #[.pointer (some ⟨R.t, 0, none⟩)] X fun e w' => ∃ v, e = .returned v ∧ w'.ownsRow X.heap.size 58 20 v n (flatP pl) ∧ Below X.heap.size X w') := hide (fun X hX => by rw [hn, hpl, hrl, hrel]; exact refProps23 R X (hR.on hX) (by omega))
  have C29 : Hid (∀ X, Below w.heap.size w X → Calls Tryz.prog 29 #[.pointer (some ⟨R.t, 0, none⟩)] X fun e w' => ∃ v, e = .returned v ∧ OwnK w' X.heap.size v kl ∧ Below X.heap.size X w') := hide (fun X hX => by rw [hkl, hrk]; exact refKeys29 R X (hR.on hX) (by omega) hrg)
  have C30 : Hid (∀ X, Below w.heap.size w X → Calls Tryz.prog 30 #[.pointer (some ⟨T.t, 0, none⟩)] X fun e w' => e = .returned (.int .i64 n) ∧ w' = X) := hide (fun X hX => by rw [hn]; exact len30 T X (hT.on hX))
  have C31 : Hid (∀ (X : World) (v u : Value) (b1 b2 : Nat), X.ownsRow b1 58 20 v n (flatP pl) → X.ownsRow b2 58 20 u n (flatP pl) → Calls Tryz.prog 31 #[v, u] X fun e w' => e = .returned (.bool true) ∧ Below X.heap.size X w') := hide (fun X v u b1 b2 h1 h2 => sameProps31 v u b1 b2 pl X (by rw [hplen]; exact h1) (by rw [hplen]; exact h2) (by omega))
  have C32 : Hid (∀ (X : World) (v u : Value) (b1 b2 : Nat), OwnK X b1 v kl → OwnK X b2 u kl → Calls Tryz.prog 32 #[v, u] X fun e w' => e = .returned (.bool true) ∧ Below X.heap.size X w') := hide (fun X v u b1 b2 h1 h2 => sameKeys32 v u kl X h1.reads h2.reads hklen)
  have hn3 : n ≤ 3000 := by omega
  have hk3 : kl.length ≤ 100000 := hklen
  clear hP hT hR hrel hlast hl hU hTP hrl hrk hrg hn hpl hkl hplen hklen
  go_enter Tryz.func9, Tryz.ntmps9
  go_wp2_with (first | go_skip | (refine rd (by rfl) (ex_load1 26 Tryz.isAgg26 rfl rfl (unhide HP) rfl) ?_; simp only [Act.put, List.setIfInBounds_toArray, List.set_cons_succ, List.set_cons_zero]) | (refine rd (by rfl) (ex_load1 28 Tryz.isAgg28 rfl rfl (unhide HP) rfl) ?_; simp only [Act.put, List.setIfInBounds_toArray, List.set_cons_succ, List.set_cons_zero]))
  have Hw : Hid (Below w.heap.size w w) := hide (Below.refl _ _)
  refine ((unhide C27) w (unhide Hw)).mono ?_
  rintro _ w1 ⟨va, rfl, hO, hb⟩
  have Hw1 : Hid (Below w.heap.size w w1) := hide (hb)
  have Ova := hide hO
  have Kw1 := hide hb
  clear hO hb
  go_wp2_with fail
  refine ((unhide C27) w1 (unhide Hw1)).mono ?_
  rintro _ w2 ⟨vb, rfl, hO, hb⟩
  have Hw2 : Hid (Below w.heap.size w w2) := hide ((unhide Hw1).trans (hb.mono (unhide Hw1).size))
  have Ovb := hide hO
  have Kw2 := hide hb
  clear hO hb
  go_wp2_with fail
  refine ((unhide C28) w2 (unhide Hw2)).mono ?_
  rintro _ w3 ⟨vc, rfl, hO, hb⟩
  have Hw3 : Hid (Below w.heap.size w w3) := hide ((unhide Hw2).trans (hb.mono (unhide Hw2).size))
  have Ovc := hide hO
  have Kw3 := hide hb
  clear hO hb
  go_wp2_with fail
  refine ((unhide C28) w3 (unhide Hw3)).mono ?_
  rintro _ w4 ⟨vd, rfl, hO, hb⟩
  have Hw4 : Hid (Below w.heap.size w w4) := hide ((unhide Hw3).trans (hb.mono (unhide Hw3).size))
  have Ovd := hide hO
  have Kw4 := hide hb
  clear hO hb
  go_wp2_with fail
  refine ((unhide C23) w4 (unhide Hw4)).mono ?_
  rintro _ w5 ⟨vp, rfl, hO, hb⟩
  have Hw5 : Hid (Below w.heap.size w w5) := hide ((unhide Hw4).trans (hb.mono (unhide Hw4).size))
  have Ovp := hide hO
  have Kw5 := hide hb
  clear hO hb
  go_wp2_with fail
  refine ((unhide C29) w5 (unhide Hw5)).mono ?_
  rintro _ w6 ⟨vk, rfl, hO, hb⟩
  have Hw6 : Hid (Below w.heap.size w w6) := hide ((unhide Hw5).trans (hb.mono (unhide Hw5).size))
  have Ovk := hide hO
  have Kw6 := hide hb
  clear hO hb
  have hab : Hid (∀ b, va.ownBlock = some b → w.heap.size ≤ b ∧ b < w1.heap.size) := hide (fun b hb => World.ownsRow.lt (unhide Ova) b hb)
  have hbb : Hid (∀ b, vb.ownBlock = some b → w1.heap.size ≤ b ∧ b < w2.heap.size) := hide (fun b hb => World.ownsRow.lt (unhide Ovb) b hb)
  have hcb : Hid (∀ b, vc.ownBlock = some b → w2.heap.size ≤ b ∧ b < w3.heap.size) := hide (fun b hb => World.ownsRow.lt (unhide Ovc) b hb)
  have hdb : Hid (∀ b, vd.ownBlock = some b → w3.heap.size ≤ b ∧ b < w4.heap.size) := hide (fun b hb => World.ownsRow.lt (unhide Ovd) b hb)
  have hpb : Hid (∀ b, vp.ownBlock = some b → w4.heap.size ≤ b ∧ b < w5.heap.size) := hide (fun b hb => World.ownsRow.lt (unhide Ovp) b hb)
  have hkb : Hid (∀ b, vk.ownBlock = some b → w5.heap.size ≤ b ∧ b < w6.heap.size) := hide (fun b hb => World.ownsRow.lt (unhide Ovk) b hb)
  have B56 := hide (unhide Kw6)
  have B46 := hide ((unhide Kw5).trans ((unhide Kw6).mono (unhide Kw5).size))
  have B36 := hide ((unhide Kw4).trans ((unhide B46).mono (unhide Kw4).size))
  have B26 := hide ((unhide Kw3).trans ((unhide B36).mono (unhide Kw3).size))
  have B16 := hide ((unhide Kw2).trans ((unhide B26).mono (unhide Kw2).size))
  replace Ova := hide (own_block (w' := w6) (unhide Ova) (fun g hg => (unhide B16).block g ((unhide hab) g hg).2))
  replace Ovb := hide (own_block (w' := w6) (unhide Ovb) (fun g hg => (unhide B26).block g ((unhide hbb) g hg).2))
  replace Ovc := hide ((unhide Ovc).block (w' := w6) (fun g hg => (unhide B36).block g ((unhide hcb) g hg).2))
  replace Ovd := hide ((unhide Ovd).block (w' := w6) (fun g hg => (unhide B46).block g ((unhide hdb) g hg).2))
  replace Ovp := hide (own_block (w' := w6) (unhide Ovp) (fun g hg => (unhide B56).block g ((unhide hpb) g hg).2))
  have s1 := hide (And.intro (unhide Kw1).size (And.intro (unhide Kw2).size (And.intro (unhide Kw3).size (And.intro (unhide Kw4).size (And.intro (unhide Kw5).size (unhide Kw6).size)))))
  clear Kw1 Kw2 Kw3 Kw4 Kw5 Kw6 B56 B46 B36 B26 B16 Hw1 Hw2 Hw3 Hw4 Hw5
  obtain ⟨Aa, ca, rfl⟩ := own_form (unhide Ova)
  obtain ⟨Ac, cc, rfl⟩ := own_form (unhide Ovc)
  obtain ⟨Ap, cp, rfl⟩ := own_form (unhide Ovp)
  go_wp2_with fail
  refine ((unhide C30) w6 (unhide Hw6)).mono ?_
  rintro _ x6 ⟨rfl, e6⟩
  rw [e6]
  clear e6 x6
  go_wp2_with fail
  refine ((unhide C31) w6 _ _ _ _ (unhide Ova) (unhide Ovp)).mono ?_
  rintro _ w7 ⟨rfl, hb⟩
  have Hw7 := hide ((unhide Hw6).trans (hb.mono (unhide Hw6).size))
  replace Ova := hide (own_block (w' := w7) (unhide Ova) (fun g hg => hb.block g (World.ownsRow.lt (unhide Ova) g hg).2))
  replace Ovb := hide (own_block (w' := w7) (unhide Ovb) (fun g hg => hb.block g (World.ownsRow.lt (unhide Ovb) g hg).2))
  replace Ovc := hide ((unhide Ovc).on hb)
  replace Ovd := hide ((unhide Ovd).on hb)
  replace Ovp := hide (own_block (w' := w7) (unhide Ovp) (fun g hg => hb.block g (World.ownsRow.lt (unhide Ovp) g hg).2))
  replace Ovk := hide ((unhide Ovk).on hb)
  clear hb
  go_wp2_with fail
  refine ((unhide C31) w7 _ _ _ _ (unhide Ovb) (unhide Ovp)).mono ?_
  rintro _ w8 ⟨rfl, hb⟩
  have Hw8 := hide ((unhide Hw7).trans (hb.mono (unhide Hw7).size))
  replace Ova := hide (own_block (w' := w8) (unhide Ova) (fun g hg => hb.block g (World.ownsRow.lt (unhide Ova) g hg).2))
  replace Ovb := hide (own_block (w' := w8) (unhide Ovb) (fun g hg => hb.block g (World.ownsRow.lt (unhide Ovb) g hg).2))
  replace Ovc := hide ((unhide Ovc).on hb)
  replace Ovd := hide ((unhide Ovd).on hb)
  replace Ovp := hide (own_block (w' := w8) (unhide Ovp) (fun g hg => hb.block g (World.ownsRow.lt (unhide Ovp) g hg).2))
  replace Ovk := hide ((unhide Ovk).on hb)
  clear hb
  go_wp2_with fail
  refine ((unhide C32) w8 _ _ _ _ (unhide Ovc) (unhide Ovk)).mono ?_
  rintro _ w9 ⟨rfl, hb⟩
  have Hw9 := hide ((unhide Hw8).trans (hb.mono (unhide Hw8).size))
  replace Ova := hide (own_block (w' := w9) (unhide Ova) (fun g hg => hb.block g (World.ownsRow.lt (unhide Ova) g hg).2))
  replace Ovb := hide (own_block (w' := w9) (unhide Ovb) (fun g hg => hb.block g (World.ownsRow.lt (unhide Ovb) g hg).2))
  replace Ovc := hide ((unhide Ovc).on hb)
  replace Ovd := hide ((unhide Ovd).on hb)
  replace Ovp := hide (own_block (w' := w9) (unhide Ovp) (fun g hg => hb.block g (World.ownsRow.lt (unhide Ovp) g hg).2))
  replace Ovk := hide ((unhide Ovk).on hb)
  clear hb
  go_wp2_with fail
  refine ((unhide C32) w9 _ _ _ _ (unhide Ovd) (unhide Ovk)).mono ?_
  rintro _ w10 ⟨rfl, hb⟩
  have Hw10 := hide ((unhide Hw9).trans (hb.mono (unhide Hw9).size))
  replace Ova := hide (own_block (w' := w10) (unhide Ova) (fun g hg => hb.block g (World.ownsRow.lt (unhide Ova) g hg).2))
  replace Ovb := hide (own_block (w' := w10) (unhide Ovb) (fun g hg => hb.block g (World.ownsRow.lt (unhide Ovb) g hg).2))
  replace Ovc := hide ((unhide Ovc).on hb)
  replace Ovd := hide ((unhide Ovd).on hb)
  replace Ovp := hide (own_block (w' := w10) (unhide Ovp) (fun g hg => hb.block g (World.ownsRow.lt (unhide Ovp) g hg).2))
  replace Ovk := hide ((unhide Ovk).on hb)
  clear hb
  go_wp2_with fail
  go_loopg [13] n (fun gm s13 wr => ∃ j : Nat, s13 = .int .i64 j ∧ j ≤ n ∧ n - j ≤ gm ∧ Hid (Over w10 wr Aa n ca w.heap.size 58 20))
  case atStart => exact ⟨0, rfl, by omega, by omega, hide (Over.start (unhide Ova))⟩
  case round =>
    obtain ⟨j, rfl, hj, hg, HV⟩ := hrel
    by_cases hjl : j < n
    · have hjz : (j : Int) < n := by omega
      obtain ⟨xs, hxs⟩ := (unhide HV).own
      obtain ⟨g, rfl, hg1, hg2⟩ := own_some hxs (by omega)
      have HH := hide (own_holds hxs)
      have hxl := own_len hxs
      have hp2 : Hid (j * 20 + 20 ≤ n * 20) := hide (by omega)
      have HL : Hid (j * 20 + (minusK.cs ++ zeroD.cs).length ≤ xs.length) := hide (by rw [hxl]; exact unhide hp2)
      clear hg1 hg2 hxl hxs
      go_wp2_with (first | go_skip | ((with_reducible apply rd); (case hw => rfl); (case hy => exact ex_index61 j rfl rfl rfl hjl); simp only [Act.put, List.setIfInBounds_toArray, List.set_cons_succ, List.set_cons_zero]) | ((with_reducible apply rd); (case hw => rfl); (case hy => exact ex_build33m rfl rfl); simp only [Act.put, List.setIfInBounds_toArray, List.set_cons_succ, List.set_cons_zero]) | ((with_reducible apply rd); (case hw => rfl); (case hy => exact ex_build58m rfl rfl); simp only [Act.put, List.setIfInBounds_toArray, List.set_cons_succ, List.set_cons_zero]) | ((with_reducible apply stx (t := 58) (b := g) (p := j * 20) (cs := xs) (vs := minusK.cs ++ zeroD.cs) (x := .tmp 78) (y := .tmp 77) (v := .agg (minusK.cs ++ zeroD.cs).toArray)); (case hw => rfl); (case ho => rfl); (case hx => rfl); (case hy => rfl); (case hv => exact cel58m); (case h1 => exact one58m); (case hi => exact siz58m); (case hH => exact unhide HH); (case hp => exact unhide HL); simp only [Act.put, List.setIfInBounds_toArray, List.set_cons_succ, List.set_cons_zero]))
      go_roundg (n - (j + 1))
      case measure => omega
      case rel => exact ⟨j + 1, by go_num, by omega, Nat.le_refl _, hide ((unhide HV).step (by have := unhide hp2; exact this))⟩
    · have hjz : ¬ (j : Int) < n := by omega
      rename World => x1
      have Hx1 := hide ((unhide HV).below (unhide Hw10) (Nat.le_refl _))
      replace Ovb := hide (own_block (w' := x1) (unhide Ovb) (fun g hg => (unhide HV).block g (fun e => by have h1 := (unhide hab) g e; have h2 := (unhide hbb) g hg; omega)))
      replace Ovc := hide ((unhide Ovc).block (w' := x1) (fun g hg => (unhide HV).block g (fun e => by have h1 := (unhide hab) g e; have h2 := (unhide hcb) g hg; have h3 := unhide s1; omega)))
      replace Ovd := hide ((unhide Ovd).block (w' := x1) (fun g hg => (unhide HV).block g (fun e => by have h1 := (unhide hab) g e; have h2 := (unhide hdb) g hg; have h3 := unhide s1; omega)))
      replace Ovp := hide (own_block (w' := x1) (unhide Ovp) (fun g hg => (unhide HV).block g (fun e => by have h1 := (unhide hab) g e; have h2 := (unhide hpb) g hg; have h3 := unhide s1; omega)))
      replace Ovk := hide ((unhide Ovk).block (w' := x1) (fun g hg => (unhide HV).block g (fun e => by have h1 := (unhide hab) g e; have h2 := (unhide hkb) g hg; have h3 := unhide s1; omega)))
      have hs2 : Hid (w.heap.size ≤ w2.heap.size) := hide (by have h3 := unhide s1; omega)
      clear HV Hw6 Hw7 Hw8 Hw9 Hw10 Ova hab
      go_wp2_with fail
      clear hjz hj hg
      go_loopg [14] kl.length (fun gm s14 wr => ∃ j : Nat, s14 = .int .i64 j ∧ j ≤ kl.length ∧ kl.length - j ≤ gm ∧ Hid (Over x1 wr Ac kl.length cc w2.heap.size 33 2))
      case atStart => exact ⟨0, rfl, by omega, by omega, hide (Over.start (unhide Ovc))⟩
      case round =>
        obtain ⟨j2, rfl, hj, hg, HV⟩ := hrel
        by_cases hjl : j2 < kl.length
        · have hjz : (j2 : Int) < kl.length := by omega
          obtain ⟨xs, hxs⟩ := (unhide HV).own
          obtain ⟨g, rfl, hg1, hg2⟩ := own_some hxs (by omega)
          have HH := hide (own_holds hxs)
          have hxl := own_len hxs
          have hp2 : Hid (0 + j2 * 2 + 2 ≤ kl.length * 2) := hide (by omega)
          have HL : Hid (0 + j2 * 2 + minusK.cs.length ≤ xs.length) := hide (by rw [hxl]; exact unhide hp2)
          clear hg1 hg2 hxl hxs
          go_wp2_with (first | go_skip | ((with_reducible apply rd); (case hw => rfl); (case hy => exact ex_index64 (off := 0) j2 rfl rfl rfl hjl); simp only [Act.put, List.setIfInBounds_toArray, List.set_cons_succ, List.set_cons_zero]) | ((with_reducible apply rd); (case hw => rfl); (case hy => exact ex_build33m rfl rfl); simp only [Act.put, List.setIfInBounds_toArray, List.set_cons_succ, List.set_cons_zero]) | ((with_reducible apply stx (t := 33) (b := g) (p := 0 + j2 * 2) (cs := xs) (vs := minusK.cs) (x := .tmp 88) (y := .tmp 87) (v := .agg minusK.cs.toArray)); (case hw => rfl); (case ho => rfl); (case hx => rfl); (case hy => rfl); (case hv => exact cel33m); (case h1 => exact one33m); (case hi => exact siz33m); (case hH => exact unhide HH); (case hp => exact unhide HL); simp only [Act.put, List.setIfInBounds_toArray, List.set_cons_succ, List.set_cons_zero]))
          go_roundg (kl.length - (j2 + 1))
          case measure => omega
          case rel => exact ⟨j2 + 1, by go_num, by omega, Nat.le_refl _, hide ((unhide HV).step (by have := unhide hp2; show j2 * 2 + 2 ≤ kl.length * 2; omega))⟩
        · have hjz : ¬ (j2 : Int) < kl.length := by omega
          rename World => x2
          have Hx2 := hide ((unhide HV).below (unhide Hx1) (unhide hs2))
          replace Ovb := hide (own_block (w' := x2) (unhide Ovb) (fun g hg => (unhide HV).block g (fun e => by have h1 := (unhide hcb) g e; have h2 := (unhide hbb) g hg; omega)))
          replace Ovd := hide ((unhide Ovd).block (w' := x2) (fun g hg => (unhide HV).block g (fun e => by have h1 := (unhide hcb) g e; have h2 := (unhide hdb) g hg; omega)))
          replace Ovp := hide (own_block (w' := x2) (unhide Ovp) (fun g hg => (unhide HV).block g (fun e => by have h1 := (unhide hcb) g e; have h2 := (unhide hpb) g hg; have h3 := unhide s1; omega)))
          replace Ovk := hide ((unhide Ovk).block (w' := x2) (fun g hg => (unhide HV).block g (fun e => by have h1 := (unhide hcb) g e; have h2 := (unhide hkb) g hg; have h3 := unhide s1; omega)))
          clear HV Ovc hcb Hx1 hj hg
          go_wp2_with fail
          refine ((unhide C31) x2 _ _ _ _ (unhide Ovb) (unhide Ovp)).mono ?_
          rintro _ x3 ⟨rfl, hb⟩
          have Hx3 := hide ((unhide Hx2).trans (hb.mono (unhide Hx2).size))
          replace Ovd := hide ((unhide Ovd).on hb)
          replace Ovp := hide (own_block (w' := x3) (unhide Ovp) (fun g hg => hb.block g (World.ownsRow.lt (unhide Ovp) g hg).2))
          replace Ovk := hide ((unhide Ovk).on hb)
          clear hb
          go_wp2_with fail
          refine ((unhide C32) x3 _ _ _ _ (unhide Ovd) (unhide Ovk)).mono ?_
          rintro _ x4 ⟨rfl, hb⟩
          have Hx4 := hide ((unhide Hx3).trans (hb.mono (unhide Hx3).size))
          replace Ovp := hide (own_block (w' := x4) (unhide Ovp) (fun g hg => hb.block g (World.ownsRow.lt (unhide Ovp) g hg).2))
          clear hb
          go_wp2_with fail
          refine ((unhide C27) x4 (unhide Hx4)).mono ?_
          rintro _ x5 ⟨v9, rfl, hO, hb⟩
          have Hx5 := hide ((unhide Hx4).trans (hb.mono (unhide Hx4).size))
          replace Ovp := hide (own_block (w' := x5) (unhide Ovp) (fun g hg => hb.block g (World.ownsRow.lt (unhide Ovp) g hg).2))
          have Ov9 := hide hO
          clear hb hO
          go_wp2_with fail
          refine ((unhide C31) x5 _ _ _ _ (unhide Ov9) (unhide Ovp)).mono ?_
          rintro _ x6 ⟨rfl, hb⟩
          have Hx6 := hide ((unhide Hx5).trans (hb.mono (unhide Hx5).size))
          clear hb
          go_wp2
          go_ret
          exact ⟨rfl, unhide Hx6⟩
end Go.Proofs.YtpbdidnphkkenaaGreatDoor

/-! Nj -/
namespace Go.Proofs.YtpbdidnphkkenaaGreatDoor
open Go Go.Proofs Go.Maps Go.RowKit
set_option linter.unusedSimpArgs false
set_option linter.unusedVariables false
set_option maxHeartbeats 1000000
theorem ex_build41a {o : Oper} {a : Act} {w : World} {c x y : Operand} {k : KK} {d : DD} (ho : o.op = .build 41 #[(0, c), (1, x), (2, y)]) (hc : a.eval c = .int .i64 1) (hx : a.eval x = .agg k.cs.toArray) (hy : a.eval y = .agg d.cs.toArray) : (execOp a.eval o).run Tryz.prog w = .ok (.value (actV 1 k d 0 (.slice none 0 0))) w := by
  have e : (Instr.build 41 #[(0, .int .i64 1), (1, .agg k.cs.toArray), (2, .agg d.cs.toArray)]).run Tryz.prog w = .ok (actV 1 k d 0 (.slice none 0 0)) w := by kernel_rfl
  unfold execOp
  simp only [ho, List.map_toArray, List.map_cons, List.map_nil, hc, hx, hy]
  simp [e]
theorem ex_build41b {o : Oper} {a : Act} {w : World} {c x : Operand} {k : KK} (z : Int) (ho : o.op = .build 41 #[(0, c), (1, x)]) (hc : a.eval c = .int .i64 z) (hx : a.eval x = .agg k.cs.toArray) : (execOp a.eval o).run Tryz.prog w = .ok (.value (actV z k zeroD 0 (.slice none 0 0))) w := by
  have e : (Instr.build 41 #[(0, .int .i64 z), (1, .agg k.cs.toArray)]).run Tryz.prog w = .ok (actV z k zeroD 0 (.slice none 0 0)) w := by kernel_rfl
  unfold execOp
  simp only [ho, List.map_toArray, List.map_cons, List.map_nil, hc, hx]
  simp [e]
theorem Rel.nil {T : TT} {R : RT} (h1 : T.rows = []) (h2 : R.es = []) : Rel T R := by
  unfold Rel TT.live
  rw [h1, h2]
  rfl
theorem newPair (w : World) (h4 : 4 ≤ w.heap.size) : Calls Tryz.prog 7 #[] w fun e w' => ∃ S : PS, e = .returned (.pointer (some ⟨S.P, 0, none⟩)) ∧ S.Is w' w.heap.size 0 ∧ S.left = 4000 ∧ Below w.heap.size w w' := by
  refine (newPair7 w).mono ?_
  rintro e w' ⟨T0, T1, R0, R1, P, rfl, hP, hT0, hT1, hR0, hR1, e0, e1, l0, l1, s0, s1, n0, n1, d0, d1, d2, d3, hPb, hb⟩
  refine ⟨⟨P, T0, T1, R0, R1, 4000⟩, rfl, ⟨⟨hP, hT0, hT1, hR0, hR1, ?_, ?_, h4, hb.size⟩, Rel.nil e0 s0, Rel.nil e1 s1, ⟨Nat.le_of_eq l0, Nat.le_of_eq l1⟩, ⟨Int.le_of_eq n0.symm, Int.le_of_eq n0, Int.le_of_eq n1.symm, Int.le_of_eq n1⟩⟩, rfl, hb⟩
  · unfold PS.parts
    refine List.pairwise_cons.2 ⟨?_, List.pairwise_cons.2 ⟨?_, List.pairwise_cons.2 ⟨?_, List.pairwise_cons.2 ⟨?_, List.pairwise_cons.2 ⟨?_, List.Pairwise.nil⟩⟩⟩⟩⟩
    · intro B hB x hx hx'
      obtain rfl : x = P := by simpa using hx
      simp only [List.mem_cons, List.not_mem_nil, or_false] at hB
      rcases hB with rfl | rfl | rfl | rfl
      · exact (d0 x hx').2.2.2.2 rfl
      · exact (d1 x hx').2.2.2 rfl
      · exact (d2 x hx').2.2 rfl
      · exact (d3 x hx').2 rfl
    · intro B hB x hx hx'
      simp only [List.mem_cons, List.not_mem_nil, or_false] at hB
      rcases hB with rfl | rfl | rfl
      · exact (d0 x hx).2.1 hx'
      · exact (d0 x hx).2.2.1 hx'
      · exact (d0 x hx).2.2.2.1 hx'
    · intro B hB x hx hx'
      simp only [List.mem_cons, List.not_mem_nil, or_false] at hB
      rcases hB with rfl | rfl
      · exact (d1 x hx).2.1 hx'
      · exact (d1 x hx).2.2.1 hx'
    · intro B hB x hx hx'
      obtain rfl : B = R1.blocks := by simpa using hB
      exact (d2 x hx).2.1 hx'
    · intro B hB
      cases hB
  · intro B hB b hbB
    simp only [PS.parts, List.mem_cons, List.not_mem_nil, or_false] at hB
    rcases hB with rfl | rfl | rfl | rfl | rfl
    · obtain rfl : b = P := by simpa using hbB
      exact hPb
    · exact (d0 b hbB).1
    · exact (d1 b hbB).1
    · exact (d2 b hbB).1
    · exact (d3 b hbB).1
set_option maxRecDepth 100000 in
theorem law_keeps (k : KK) (d : DD) (o : KK) (w : World) (hU : Lib.Utf8Tabs 2 3 w) (hP : TabP w) (hk : OkK k) (ho : OkK o) : Calls Tryz.prog 5 #[k.agg, d.agg, o.agg] w fun e w' => e = .returned (.bool true) ∧ Below w.heap.size w w' := by
  have HK := hide (And.intro hk ho)
  have HU : Hid (∀ X, Below w.heap.size w X → Lib.Utf8Tabs 2 3 X ∧ TabP X) := hide (fun X hX => ⟨tabs_fr hU (Fr.of_below hX []) (by simp), hP.on hX⟩)
  have H4 : Hid (∀ X, Below w.heap.size w X → 4 ≤ X.heap.size) := hide (fun X hX => by have := tabs_size hU; have := hX.size; omega)
  have LL : Hid (Hq w w [] []) := hide (Hq.nil w [])
  have HB : Hid (Below w.heap.size w w) := hide (Below.refl _ _)
  clear hU hP hk ho
  rw [show k.agg = .agg k.cs.toArray from rfl, show d.agg = .agg d.cs.toArray from rfl, show o.agg = .agg o.cs.toArray from rfl]
  go_enter Tryz.func5, Tryz.ntmps5
  go_wp2_with (first | go_skip | (refine bx 33 k.cs (by rfl) rfl rfl rfl (Nat.succ_pos _) (unhide LL) ?_; intro w1 B hB L1 hb1; replace LL := hide L1; replace HB := hide ((unhide HB).trans (hb1.mono (unhide HB).size)); clear hB L1 hb1; simp only [Act.put, List.setIfInBounds_toArray, List.set_cons_succ, List.set_cons_zero]) | (refine bx 39 d.cs (by rfl) rfl rfl rfl (Nat.succ_pos _) (unhide LL) ?_; intro w1 B hB L1 hb1; replace LL := hide L1; replace HB := hide ((unhide HB).trans (hb1.mono (unhide HB).size)); clear hB L1 hb1; simp only [Act.put, List.setIfInBounds_toArray, List.set_cons_succ, List.set_cons_zero]) | (refine bx 33 o.cs (by rfl) rfl rfl rfl (Nat.succ_pos _) (unhide LL) ?_; intro w1 B hB L1 hb1; replace LL := hide L1; replace HB := hide ((unhide HB).trans (hb1.mono (unhide HB).size)); clear hB L1 hb1; simp only [Act.put, List.setIfInBounds_toArray, List.set_cons_succ, List.set_cons_zero]))
  refine (newPair w1 ((unhide H4) w1 (unhide HB))).mono ?_
  rintro _ w2 ⟨S, rfl, hS, -, hb2⟩
  have HLT := hide (unhide LL).lt
  have HZ : Hid (w.heap.size ≤ w1.heap.size) := hide (unhide HB).size
  replace LL := hide ((unhide LL).on hb2)
  replace HB := hide ((unhide HB).trans (hb2.mono (unhide HB).size))
  have HS := hide hS
  have HP := hide hS.bs.hold
  clear hS hb2
  go_wp2_with (first | go_skip | (refine rd (by rfl) (ex_load1 26 Tryz.isAgg26 rfl rfl (unhide HP) rfl) ?_; simp only [Act.put, List.setIfInBounds_toArray, List.set_cons_succ, List.set_cons_zero]) | (refine rd (by rfl) (ex_loadN (vs := k.cs) 33 2 row33x siz33 rfl rfl ((unhide LL).get 0 rfl) rfl rfl) ?_; simp only [Act.put, List.setIfInBounds_toArray, List.set_cons_succ, List.set_cons_zero]) | (refine rd (by rfl) (ex_loadN (vs := d.cs) 39 18 row39 siz39 rfl rfl ((unhide LL).get 1 rfl) rfl rfl) ?_; simp only [Act.put, List.setIfInBounds_toArray, List.set_cons_succ, List.set_cons_zero]) | (refine rd (by rfl) (ex_loadN (vs := o.cs) 33 2 row33x siz33 rfl rfl ((unhide LL).get 2 rfl) rfl rfl) ?_; simp only [Act.put, List.setIfInBounds_toArray, List.set_cons_succ, List.set_cons_zero]) | (refine rd (by rfl) (ex_build41a (k := k) (d := d) rfl rfl rfl rfl) ?_; simp only [Act.put, List.setIfInBounds_toArray, List.set_cons_succ, List.set_cons_zero]) | (refine rd (by rfl) (ex_build41b (k := o) 1 rfl rfl rfl) ?_; simp only [Act.put, List.setIfInBounds_toArray, List.set_cons_succ, List.set_cons_zero]) | (refine rd (by rfl) (ex_build41b (k := k) 5 rfl rfl rfl) ?_; simp only [Act.put, List.setIfInBounds_toArray, List.set_cons_succ, List.set_cons_zero]) | (refine rd (by rfl) (ex_build41b (k := o) 5 rfl rfl rfl) ?_; simp only [Act.put, List.setIfInBounds_toArray, List.set_cons_succ, List.set_cons_zero]))
  refine (play_put S k d 0 (.slice none 0 0) 0 w2 w1.heap.size 0 (unhide HS) (by omega) ((unhide HU) _ (unhide HB)).1 (unhide HK).1).mono ?_
  rintro _ w3 ⟨rfl, S3, hSn, hwn⟩
  have HE3 : Hid (S3.P = S.P) := hide (hwn.P.trans rfl)
  replace LL := hide ((unhide LL).step hwn.fr (fun b hb => Or.inr (by obtain ⟨C, hC, hbC⟩ := List.mem_flatten.1 hb; have h1 := (unhide HS).bs.low C hC b hbC; have h2 := unhide HZ; omega)) (fun q hq hm => by obtain ⟨C, hC, hbC⟩ := List.mem_flatten.1 hm; have h1 := (unhide HS).bs.low C hC q.1 hbC; have h2 := (unhide HLT) q hq; omega))
  have HB3 : Hid (Below w.heap.size w w3) := hide ((unhide HB).trans ((hwn.below (unhide HS).bs (unhide HS).bs.size).mono (unhide HZ)))
  replace HB := HB3
  replace HS := hide hSn
  clear hSn hwn HB3
  have C4 := hide (play_put S3 o zeroD 0 (.slice none 0 0) 0 w3 w1.heap.size 1 (unhide HS) (by omega) ((unhide HU) _ (unhide HB)).1 (unhide HK).2)
  rw [unhide HE3] at C4
  go_wp2_with (first | go_skip | (refine rd (by rfl) (ex_load1 26 Tryz.isAgg26 rfl rfl (unhide HP) rfl) ?_; simp only [Act.put, List.setIfInBounds_toArray, List.set_cons_succ, List.set_cons_zero]) | (refine rd (by rfl) (ex_loadN (vs := k.cs) 33 2 row33x siz33 rfl rfl ((unhide LL).get 0 rfl) rfl rfl) ?_; simp only [Act.put, List.setIfInBounds_toArray, List.set_cons_succ, List.set_cons_zero]) | (refine rd (by rfl) (ex_loadN (vs := d.cs) 39 18 row39 siz39 rfl rfl ((unhide LL).get 1 rfl) rfl rfl) ?_; simp only [Act.put, List.setIfInBounds_toArray, List.set_cons_succ, List.set_cons_zero]) | (refine rd (by rfl) (ex_loadN (vs := o.cs) 33 2 row33x siz33 rfl rfl ((unhide LL).get 2 rfl) rfl rfl) ?_; simp only [Act.put, List.setIfInBounds_toArray, List.set_cons_succ, List.set_cons_zero]) | (refine rd (by rfl) (ex_build41a (k := k) (d := d) rfl rfl rfl rfl) ?_; simp only [Act.put, List.setIfInBounds_toArray, List.set_cons_succ, List.set_cons_zero]) | (refine rd (by rfl) (ex_build41b (k := o) 1 rfl rfl rfl) ?_; simp only [Act.put, List.setIfInBounds_toArray, List.set_cons_succ, List.set_cons_zero]) | (refine rd (by rfl) (ex_build41b (k := k) 5 rfl rfl rfl) ?_; simp only [Act.put, List.setIfInBounds_toArray, List.set_cons_succ, List.set_cons_zero]) | (refine rd (by rfl) (ex_build41b (k := o) 5 rfl rfl rfl) ?_; simp only [Act.put, List.setIfInBounds_toArray, List.set_cons_succ, List.set_cons_zero]))
  refine (unhide C4).mono ?_
  clear C4
  rintro _ w4 ⟨rfl, S4, hSn, hwn⟩
  have HE4 : Hid (S4.P = S.P) := hide (hwn.P.trans (unhide HE3))
  replace LL := hide ((unhide LL).step hwn.fr (fun b hb => Or.inr (by obtain ⟨C, hC, hbC⟩ := List.mem_flatten.1 hb; have h1 := (unhide HS).bs.low C hC b hbC; have h2 := unhide HZ; omega)) (fun q hq hm => by obtain ⟨C, hC, hbC⟩ := List.mem_flatten.1 hm; have h1 := (unhide HS).bs.low C hC q.1 hbC; have h2 := (unhide HLT) q hq; omega))
  have HB4 : Hid (Below w.heap.size w w4) := hide ((unhide HB).trans ((hwn.below (unhide HS).bs (unhide HS).bs.size).mono (unhide HZ)))
  replace HB := HB4
  replace HS := hide hSn
  clear hSn hwn HB4
  have C5 := hide (play_get S4 k zeroD 0 (.slice none 0 0) 0 w4 w1.heap.size 2 (unhide HS) (by omega) (unhide HK).1)
  rw [unhide HE4] at C5
  go_wp2_with (first | go_skip | (refine rd (by rfl) (ex_load1 26 Tryz.isAgg26 rfl rfl (unhide HP) rfl) ?_; simp only [Act.put, List.setIfInBounds_toArray, List.set_cons_succ, List.set_cons_zero]) | (refine rd (by rfl) (ex_loadN (vs := k.cs) 33 2 row33x siz33 rfl rfl ((unhide LL).get 0 rfl) rfl rfl) ?_; simp only [Act.put, List.setIfInBounds_toArray, List.set_cons_succ, List.set_cons_zero]) | (refine rd (by rfl) (ex_loadN (vs := d.cs) 39 18 row39 siz39 rfl rfl ((unhide LL).get 1 rfl) rfl rfl) ?_; simp only [Act.put, List.setIfInBounds_toArray, List.set_cons_succ, List.set_cons_zero]) | (refine rd (by rfl) (ex_loadN (vs := o.cs) 33 2 row33x siz33 rfl rfl ((unhide LL).get 2 rfl) rfl rfl) ?_; simp only [Act.put, List.setIfInBounds_toArray, List.set_cons_succ, List.set_cons_zero]) | (refine rd (by rfl) (ex_build41a (k := k) (d := d) rfl rfl rfl rfl) ?_; simp only [Act.put, List.setIfInBounds_toArray, List.set_cons_succ, List.set_cons_zero]) | (refine rd (by rfl) (ex_build41b (k := o) 1 rfl rfl rfl) ?_; simp only [Act.put, List.setIfInBounds_toArray, List.set_cons_succ, List.set_cons_zero]) | (refine rd (by rfl) (ex_build41b (k := k) 5 rfl rfl rfl) ?_; simp only [Act.put, List.setIfInBounds_toArray, List.set_cons_succ, List.set_cons_zero]) | (refine rd (by rfl) (ex_build41b (k := o) 5 rfl rfl rfl) ?_; simp only [Act.put, List.setIfInBounds_toArray, List.set_cons_succ, List.set_cons_zero]))
  refine (unhide C5).mono ?_
  clear C5
  rintro _ w5 ⟨rfl, hb⟩
  replace LL := hide ((unhide LL).on hb)
  replace HB := hide ((unhide HB).trans (hb.mono (unhide HB).size))
  replace HS := hide ((unhide HS).on hb)
  clear hb
  have C6 := hide (play_get S4 o zeroD 0 (.slice none 0 0) 0 w5 w1.heap.size 2 (unhide HS) (by omega) (unhide HK).2)
  rw [unhide HE4] at C6
  go_wp2_with (first | go_skip | (refine rd (by rfl) (ex_load1 26 Tryz.isAgg26 rfl rfl (unhide HP) rfl) ?_; simp only [Act.put, List.setIfInBounds_toArray, List.set_cons_succ, List.set_cons_zero]) | (refine rd (by rfl) (ex_loadN (vs := k.cs) 33 2 row33x siz33 rfl rfl ((unhide LL).get 0 rfl) rfl rfl) ?_; simp only [Act.put, List.setIfInBounds_toArray, List.set_cons_succ, List.set_cons_zero]) | (refine rd (by rfl) (ex_loadN (vs := d.cs) 39 18 row39 siz39 rfl rfl ((unhide LL).get 1 rfl) rfl rfl) ?_; simp only [Act.put, List.setIfInBounds_toArray, List.set_cons_succ, List.set_cons_zero]) | (refine rd (by rfl) (ex_loadN (vs := o.cs) 33 2 row33x siz33 rfl rfl ((unhide LL).get 2 rfl) rfl rfl) ?_; simp only [Act.put, List.setIfInBounds_toArray, List.set_cons_succ, List.set_cons_zero]) | (refine rd (by rfl) (ex_build41a (k := k) (d := d) rfl rfl rfl rfl) ?_; simp only [Act.put, List.setIfInBounds_toArray, List.set_cons_succ, List.set_cons_zero]) | (refine rd (by rfl) (ex_build41b (k := o) 1 rfl rfl rfl) ?_; simp only [Act.put, List.setIfInBounds_toArray, List.set_cons_succ, List.set_cons_zero]) | (refine rd (by rfl) (ex_build41b (k := k) 5 rfl rfl rfl) ?_; simp only [Act.put, List.setIfInBounds_toArray, List.set_cons_succ, List.set_cons_zero]) | (refine rd (by rfl) (ex_build41b (k := o) 5 rfl rfl rfl) ?_; simp only [Act.put, List.setIfInBounds_toArray, List.set_cons_succ, List.set_cons_zero]))
  refine (unhide C6).mono ?_
  clear C6
  rintro _ w6 ⟨rfl, hb⟩
  replace LL := hide ((unhide LL).on hb)
  replace HB := hide ((unhide HB).trans (hb.mono (unhide HB).size))
  replace HS := hide ((unhide HS).on hb)
  clear hb
  have C7 := hide (tells9_0 S4.T0 S4.R0 S4.P S4.T1.t S4.R1.t S4.left w6 (unhide HS).bs.hold (unhide HS).bs.t0 (unhide HS).bs.r0 (unhide HS).rel0 (by have := (unhide HS).last.1; omega) (by have := (unhide HS).live0; omega) ((unhide HU) _ (unhide HB)).1 ((unhide HU) _ (unhide HB)).2)
  rw [unhide HE4] at C7
  go_wp2_with fail
  refine (unhide C7).mono ?_
  clear C7
  rintro _ w7 ⟨rfl, hb⟩
  replace HB := hide ((unhide HB).trans (hb.mono (unhide HB).size))
  clear hb
  go_wp2
  go_ret
  exact ⟨rfl, unhide HB⟩
end Go.Proofs.YtpbdidnphkkenaaGreatDoor
