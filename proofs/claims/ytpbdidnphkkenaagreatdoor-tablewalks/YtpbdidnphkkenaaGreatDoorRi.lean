import Derived.Test.YtpbdidnphkkenaaGreatDoorRh
set_option linter.all false
namespace Go.Proofs.YtpbdidnphkkenaaGreatDoor
set_option maxHeartbeats 1000000
section
open Go Go.Proofs Go.Maps Go.RowKit
def Dis (a b : List Nat) : Prop := ∀ x ∈ a, x ∉ b
theorem Dis.symm {a b : List Nat} (h : Dis a b) : Dis b a := fun x hx hx' => h x hx' hx
theorem Sep.set : ∀ (l : List (List Nat)) (m i : Nat) (A A' : List Nat), l.Pairwise Dis → (∀ B ∈ l, ∀ b ∈ B, b < m) → l[i]? = some A → (∀ b ∈ A', b ∈ A ∨ m ≤ b) → (l.set i A').Pairwise Dis
  | [], m, i, A, A', _, _, hi, _ => by simp at hi
  | B :: l, m, 0, A, A', h, hlt, hi, hA => by
    obtain rfl : B = A := by simpa using hi
    obtain ⟨h1, h2⟩ := List.pairwise_cons.1 h
    rw [List.set_cons_zero]
    refine List.pairwise_cons.2 ⟨fun C hC x hx hx' => ?_, h2⟩
    rcases hA x hx with hx | hx
    · exact h1 C hC x hx hx'
    · have := hlt C (by simp [hC]) x hx'
      omega
  | B :: l, m, i + 1, A, A', h, hlt, hi, hA => by
    obtain ⟨h1, h2⟩ := List.pairwise_cons.1 h
    rw [List.set_cons_succ]
    have hi' : l[i]? = some A := by simpa using hi
    refine List.pairwise_cons.2 ⟨fun C hC x hx hx' => ?_, Sep.set l m i A A' h2 (fun D hD => hlt D (by simp [hD])) hi' hA⟩
    rcases List.mem_or_eq_of_mem_set hC with hC | rfl
    · exact h1 C hC x hx hx'
    · rcases hA x hx' with hx' | hx'
      · exact h1 A (List.mem_of_getElem? hi') x hx hx'
      · have := hlt B (by simp) x hx
        omega
/-- A walk under way: the number handed out last, the document's, and the row's block. -/
structure CT where
  m : Nat
  a : Int
  b : Option Nat
/-- A pair of tables of the program and two of the document. -/
structure PS where
  P : Nat
  T0 : TT
  T1 : TT
  R0 : RT
  R1 : RT
  left : Int
  C : List CT
def PS.parts (S : PS) : List (List Nat) := [[S.P], S.T0.blocks, S.T1.blocks, S.R0.blocks, S.R1.blocks]
def PS.cs (S : PS) : List Value := pairCs S.T0.t S.T1.t S.R0.t S.R1.t S.left
structure PS.Bs (S : PS) (W : World) (base : Nat) : Prop where
  hold : Holds W S.P S.cs
  t0 : S.T0.Is W
  t1 : S.T1.Is W
  r0 : S.R0.Is W
  r1 : S.R1.Is W
  sep : S.parts.Pairwise Dis
  low : ∀ B ∈ S.parts, ∀ b ∈ B, base ≤ b
  four : 4 ≤ base
  size : base ≤ W.heap.size
/-- The blocks of a pair that are no rows' of the first table. -/
def PS.hot (S : PS) : List Nat := S.P :: (S.T0.hot ++ (S.T1.blocks ++ (S.R0.blocks ++ S.R1.blocks)))
structure CutIs (S : PS) (W : World) (c : CT) : Prop where
  m : c.m ≤ S.T0.last
  a : c.a < S.R0.nx
  al : S.T0.live.map (fun r => decide (c.m < r.n)) = S.R0.es.map (fun e => decide (c.a < e.n))
  row : ∀ b, c.b = some b → b < W.heap.size ∧ b ∉ S.hot ∧ W.cell? ⟨b, 20, none⟩ = some (.int .u64 (c.m : Nat))
theorem CutIs.on {S : PS} {W W' : World} {c : CT} (h : CutIs S W c) (hb : Below W.heap.size W W') : CutIs S W' c :=
  ⟨h.m, h.a, h.al, fun b e => by
    obtain ⟨h1, h2, h3⟩ := h.row b e
    exact ⟨Nat.lt_of_lt_of_le h1 hb.size, h2, (cell_blk (hb.block b h1)).trans h3⟩⟩
theorem CutIs.drew {S : PS} {W : World} {c : CT} (h : CutIs S W c) : CutIs S W.drew c := ⟨h.m, h.a, h.al, h.row⟩
theorem CutIs.step {S S' : PS} {w w' : World} {c : CT} (h : CutIs S w c) (hm : S.T0.last ≤ S'.T0.last) (ha : S.R0.nx ≤ S'.R0.nx) (hal : S'.T0.live.map (fun r => decide (c.m < r.n)) = S'.R0.es.map (fun e => decide (c.a < e.n))) (hs : w.heap.size ≤ w'.heap.size) (hh : ∀ b ∈ S'.hot, b ∈ S.hot ∨ w.heap.size ≤ b)
    (hk : ∀ b, b < w.heap.size → b ∉ S.hot → w'.cell? ⟨b, 20, none⟩ = w.cell? ⟨b, 20, none⟩) : CutIs S' w' c :=
  ⟨Nat.le_trans h.m hm, by have := h.a; omega, hal, fun b e => by
    obtain ⟨h1, h2, h3⟩ := h.row b e
    refine ⟨Nat.lt_of_lt_of_le h1 hs, fun hb => ?_, (hk b h1 h2).trans h3⟩
    rcases hh b hb with h4 | h4
    · exact h2 h4
    · omega⟩
/-- The document's numbers rise. -/
def Ris (R : RT) : Prop := (R.es.map (·.n)).Pairwise (fun a b => a < b) ∧ ∀ z ∈ R.es.map (·.n), 0 ≤ z ∧ z < R.nx
structure PS.Is (S : PS) (W : World) (base N : Nat) : Prop where
  bs : S.Bs W base
  rel0 : Rel S.T0 S.R0
  rel1 : Rel S.T1 S.R1
  last : S.T0.last ≤ N ∧ S.T1.last ≤ N
  nx : 0 ≤ S.R0.nx ∧ S.R0.nx ≤ N ∧ 0 ≤ S.R1.nx ∧ S.R1.nx ≤ N
  ris : Ris S.R0 ∧ Ris S.R1
  cut : ∀ c ∈ S.C, CutIs S W c
theorem PS.Bs.lt {S : PS} {W : World} {base : Nat} (h : S.Bs W base) : ∀ B ∈ S.parts, ∀ b ∈ B, b < W.heap.size := by
  intro B hB b hb
  simp only [PS.parts, List.mem_cons, List.not_mem_nil, or_false] at hB
  rcases hB with rfl | rfl | rfl | rfl | rfl
  · obtain rfl : b = S.P := by simpa using hb
    exact h.hold.lt (by simp [PS.cs, pairCs])
  · exact h.t0.lt b hb
  · exact h.t1.lt b hb
  · exact h.r0.lt b hb
  · exact h.r1.lt b hb
theorem PS.Is.mono {S : PS} {W : World} {base N M : Nat} (h : S.Is W base N) (hM : N ≤ M) : S.Is W base M :=
  ⟨h.bs, h.rel0, h.rel1, ⟨Nat.le_trans h.last.1 hM, Nat.le_trans h.last.2 hM⟩, ⟨h.nx.1, by have := h.nx.2.1; omega, h.nx.2.2.1, by have := h.nx.2.2.2; omega⟩, h.ris, h.cut⟩
theorem PS.Bs.on {S : PS} {W W' : World} {base : Nat} (h : S.Bs W base) (hb : Below W.heap.size W W') : S.Bs W' base :=
  ⟨h.hold.block (hb.block _ (h.lt [S.P] (by simp [PS.parts]) S.P (by simp))), h.t0.on hb, h.t1.on hb, h.r0.on hb, h.r1.on hb, h.sep, h.low, h.four, Nat.le_trans h.size hb.size⟩
theorem PS.Is.on {S : PS} {W W' : World} {base N : Nat} (h : S.Is W base N) (hb : Below W.heap.size W W') : S.Is W' base N :=
  ⟨h.bs.on hb, h.rel0, h.rel1, h.last, h.nx, h.ris, fun c hc => (h.cut c hc).on hb⟩
theorem PS.Bs.drew {S : PS} {W : World} {base : Nat} (h : S.Bs W base) : S.Bs W.drew base :=
  ⟨h.hold.block rfl, h.t0.drew, h.t1.drew, h.r0.drew, h.r1.drew, h.sep, h.low, h.four, h.size⟩
theorem PS.Is.drew {S : PS} {W : World} {base N : Nat} (h : S.Is W base N) : S.Is W.drew base N :=
  ⟨h.bs.drew, h.rel0, h.rel1, h.last, h.nx, h.ris, fun c hc => (h.cut c hc).drew⟩
section
variable {S : PS} {W : World} {base N : Nat}
theorem PS.Bs.d (h : S.Bs W base) (i j : Nat) (A B : List Nat) (hi : S.parts[i]? = some A) (hj : S.parts[j]? = some B) (hij : i < j) : Dis A B := by
  have hil := (List.getElem?_eq_some_iff.1 hi)
  have hjl := (List.getElem?_eq_some_iff.1 hj)
  have := List.pairwise_iff_getElem.1 h.sep i j hil.1 hjl.1 hij
  rw [hil.2, hjl.2] at this
  exact this
theorem PS.Bs.four0 (h : S.Bs W base) : ∀ b ∈ S.T0.blocks, 4 ≤ b := fun b hb => Nat.le_trans h.four (h.low _ (by simp [PS.parts]) b hb)
theorem PS.Is.live0 (h : S.Is W base N) : S.T0.live.length ≤ N := by
  have h2 := S.T0.live_le
  have h3 := h.bs.t0.len
  have h4 := h.last.1
  omega
theorem PS.Is.live1 (h : S.Is W base N) : S.T1.live.length ≤ N := by
  have h2 := S.T1.live_le
  have h3 := h.bs.t1.len
  have h4 := h.last.2
  omega
theorem PS.Is.es0 (h : S.Is W base N) : S.R0.es.length ≤ N := by
  have h1 := h.rel0.len
  have h2 := h.live0
  omega
end
/-- What a call may have done to the pair: its own blocks alone are others. -/
structure Went (S S' : PS) (w w' : World) : Prop where
  P : S'.P = S.P
  fr : Fr w w' S.parts.flatten
  new : ∀ b ∈ S'.parts.flatten, b ∈ S.parts.flatten ∨ w.heap.size ≤ b
  C : S'.C = S.C
  left : S'.left = S.left
  ts : S.C ≠ [] → S'.T0.t = S.T0.t ∧ S'.R0.t = S.R0.t
theorem Went.refl (S : PS) {w w' : World} (h : Below w.heap.size w w') : Went S S w w' := ⟨rfl, Fr.of_below h _, fun b hb => .inl hb, rfl, rfl, fun _ => ⟨rfl, rfl⟩⟩
theorem Went.trans {S S' S'' : PS} {w w' w'' : World} (h : Went S S' w w') (k : Went S' S'' w' w'') : Went S S'' w w'' :=
  ⟨k.P.trans h.P, h.fr.trans k.fr (fun b hb => h.new b hb), fun b hb => by
    rcases k.new b hb with hb | hb
    · exact h.new b hb
    · exact .inr (Nat.le_trans h.fr.size hb), k.C.trans h.C, k.left.trans h.left, fun hc => ⟨(k.ts (by rw [h.C]; exact hc)).1.trans (h.ts hc).1, (k.ts (by rw [h.C]; exact hc)).2.trans (h.ts hc).2⟩⟩
theorem Went.below {S S' : PS} {w w' W : World} {base : Nat} (h : Went S S' w w') (hS : S.Bs W base) (hz : base ≤ w.heap.size) : Below base w w' :=
  ⟨h.fr.os, h.fr.tape, h.fr.output, h.fr.size, fun b hb => h.fr.block b (Nat.lt_of_lt_of_le hb hz) (fun he => by
    obtain ⟨B, hB, hbB⟩ := List.mem_flatten.1 he
    have := hS.low B hB b hbB
    omega)⟩
/-- The first table is another one: what was done to it touched its own blocks alone. -/
theorem PS.Bs.table0 {S : PS} {W W' : World} {base : Nat} (h : S.Bs W base) {T' : TT} (hT : T'.Is W') (ht : T'.t = S.T0.t) (hf : Fr W W' S.T0.blocks) (hb : ∀ b ∈ T'.blocks, b ∈ S.T0.blocks ∨ W.heap.size ≤ b) :
    PS.Bs { S with T0 := T' } W' base ∧ Went S { S with T0 := T' } W W' := by
  have hP : S.P ∉ S.T0.blocks := h.d 0 1 _ _ rfl rfl (by omega) S.P (by simp)
  have hs := Sep.set S.parts W.heap.size 1 S.T0.blocks T'.blocks h.sep h.lt rfl hb
  have hn : ∀ b ∈ (PS.parts { S with T0 := T' }).flatten, b ∈ S.parts.flatten ∨ W.heap.size ≤ b := by
    intro b hb'
    simp only [PS.parts, List.flatten_cons, List.flatten_nil, List.mem_append, List.append_nil] at hb' ⊢
    rcases hb' with h1 | h1 | h1
    · exact .inl (.inl h1)
    · rcases hb b h1 with h1 | h1
      · exact .inl (.inr (.inl h1))
      · exact .inr h1
    · exact .inl (.inr (.inr h1))
  refine ⟨⟨?_, hT, h.t1.fr hf (h.d 1 2 _ _ rfl rfl (by omega)).symm, h.r0.fr hf (h.d 1 3 _ _ rfl rfl (by omega)).symm, h.r1.fr hf (h.d 1 4 _ _ rfl rfl (by omega)).symm, hs, ?_, h.four, Nat.le_trans h.size hf.size⟩, rfl, hf.mono (fun b hb => .inl ?_), hn, rfl, rfl, fun _ => ⟨ht, rfl⟩⟩
  · unfold PS.cs
    simp only [ht]
    exact h.hold.block (hf.block _ (h.lt [S.P] (by simp [PS.parts]) S.P (by simp)) hP)
  · intro B hB b hbB
    rcases hn b (List.mem_flatten.2 ⟨B, hB, hbB⟩) with h1 | h1
    · obtain ⟨C, hC, hbC⟩ := List.mem_flatten.1 h1
      exact h.low C hC b hbC
    · exact Nat.le_trans h.size h1
  · exact List.mem_flatten.2 ⟨S.T0.blocks, by simp [PS.parts], hb⟩
/-- The document's first table is another one. -/
theorem PS.Bs.doc0 {S : PS} {W W' : World} {base : Nat} (h : S.Bs W base) {R' : RT} (hT : R'.Is W') (ht : R'.t = S.R0.t) (hf : Fr W W' S.R0.blocks) (hb : ∀ b ∈ R'.blocks, b ∈ S.R0.blocks ∨ W.heap.size ≤ b) :
    PS.Bs { S with R0 := R' } W' base ∧ Went S { S with R0 := R' } W W' := by
  have hP : S.P ∉ S.R0.blocks := h.d 0 3 _ _ rfl rfl (by omega) S.P (by simp)
  have hs := Sep.set S.parts W.heap.size 3 S.R0.blocks R'.blocks h.sep h.lt rfl hb
  have hn : ∀ b ∈ (PS.parts { S with R0 := R' }).flatten, b ∈ S.parts.flatten ∨ W.heap.size ≤ b := by
    intro b hb'
    simp only [PS.parts, List.flatten_cons, List.flatten_nil, List.mem_append, List.append_nil] at hb' ⊢
    rcases hb' with h1 | h1 | h1 | h1 | h1
    · exact .inl (.inl h1)
    · exact .inl (.inr (.inl h1))
    · exact .inl (.inr (.inr (.inl h1)))
    · rcases hb b h1 with h1 | h1
      · exact .inl (.inr (.inr (.inr (.inl h1))))
      · exact .inr h1
    · exact .inl (.inr (.inr (.inr (.inr h1))))
  refine ⟨⟨?_, h.t0.fr hf (h.d 1 3 _ _ rfl rfl (by omega)), h.t1.fr hf (h.d 2 3 _ _ rfl rfl (by omega)), hT, h.r1.fr hf (h.d 3 4 _ _ rfl rfl (by omega)).symm, hs, ?_, h.four, Nat.le_trans h.size hf.size⟩, rfl, hf.mono (fun b hb => .inl ?_), hn, rfl, rfl, fun _ => ⟨rfl, ht⟩⟩
  · unfold PS.cs
    simp only [ht]
    exact h.hold.block (hf.block _ (h.lt [S.P] (by simp [PS.parts]) S.P (by simp)) hP)
  · intro B hB b hbB
    rcases hn b (List.mem_flatten.2 ⟨B, hB, hbB⟩) with h1 | h1
    · obtain ⟨C, hC, hbC⟩ := List.mem_flatten.1 h1
      exact h.low C hC b hbC
    · exact Nat.le_trans h.size h1
  · exact List.mem_flatten.2 ⟨S.R0.blocks, by simp [PS.parts], hb⟩
def errOf (k : KK) : Int := if goodK k then 0 else 5
/-- What Put makes of the document's table. -/
def PutR (R : RT) (k : KK) (d : DD) (R' : RT) : Prop := (goodK k = false ∧ R' = R) ∨ (goodK k = true ∧ ∃ a x b, R.es = a ++ x :: b ∧ R.find k = some a.length ∧ R'.es = a ++ ⟨x.k, d, x.n⟩ :: b ∧ R'.nx = R.nx) ∨ (goodK k = true ∧ R.find k = none ∧ R'.es = R.es ++ [⟨k, d, R.nx⟩] ∧ R'.nx = R.nx + 1)
theorem refPut13 (R : RT) (k : KK) (d : DD) (w : World) (hR : R.Is w) (hl : R.es.length ≤ 3000000) (hnx : 0 ≤ R.nx ∧ R.nx < 4000000) : Calls Tryz.prog 13 #[.pointer (some ⟨R.t, 0, none⟩), k.agg, d.agg] w fun e w' => e = .returned (.int .i64 (errOf k)) ∧ ∃ R' : RT, R'.Is w' ∧ R'.t = R.t ∧ Fr w w' R.blocks ∧ (∀ b ∈ R'.blocks, b ∈ R.blocks ∨ w.heap.size ≤ b) ∧ (R'.nx = R.nx ∨ R'.nx = R.nx + 1) ∧ PutR R k d R' := by
  cases hg : goodK k with
  | false =>
    have e : errOf k = 5 := by unfold errOf; rw [hg]; rfl
    rw [e]
    refine (refPut_bad R k d w hR hl hg).mono ?_
    rintro e' w' ⟨rfl, h1, h2⟩
    exact ⟨rfl, R, h1, rfl, h2, fun b hb => .inl hb, .inl rfl, .inl ⟨hg, rfl⟩⟩
  | true =>
    have e : errOf k = 0 := by unfold errOf; rw [hg]; rfl
    rw [e]
    cases hf : R.find k with
    | some i =>
      obtain ⟨hi, hk⟩ := RT.find_lt hf
      have he : R.es = R.es.take i ++ R.es[i] :: R.es.drop (i + 1) := by simp
      have hl2 : (R.es.take i).length = i := by simp; omega
      refine (refPut_some R k d w hR hl hg (R.es.take i) (R.es.drop (i + 1)) R.es[i] he (by rw [hl2]; exact hf)).mono ?_
      rintro e' w' ⟨rfl, h1, h2⟩
      exact ⟨rfl, _, h1, rfl, h2, fun b hb => .inl hb, .inl rfl, .inr (.inl ⟨hg, _, _, _, he, by rw [hl2]; exact hf, rfl, rfl⟩)⟩
    | none =>
      refine (refPut_none R k d w hR hl hnx hg hf).mono ?_
      rintro e' w' ⟨rfl, lv, h1, h2, h3⟩
      refine ⟨rfl, _, h1, rfl, h2, fun b hb => ?_, .inr rfl, .inr (.inr ⟨hg, hf, rfl, rfl⟩)⟩
      simp only [RT.blocks, List.mem_cons] at hb ⊢
      rcases hb with rfl | hb
      · exact .inl (.inl rfl)
      · rcases h3 b (by simpa using hb) with h4 | h4
        · exact .inl (.inr (by simp [h4]))
        · exact .inr h4
/-- What Put makes of the program's table. -/
def PutT (T : TT) (k : KK) (d : DD) (T' : TT) : Prop := (∃ r, T.find k = some r ∧ T' = T.upd r.b d) ∨ (T.find k = none ∧ goodK k = true ∧ ∃ rv R, T' = T.added rv R k d) ∨ (T.find k = none ∧ goodK k = false ∧ T' = T)
theorem Rel.es {T : TT} {t t' : Nat} {lv lv' : Value} {es es' : List EE} {nx nx' : Int} (h : Rel T ⟨t, lv, es, nx⟩) (he : es' = es) : Rel T ⟨t', lv', es', nx'⟩ := by
  subst he
  exact h
theorem rel_put {T T' : TT} {R R' : RT} {W : World} {k : KK} {d : DD} (h : Rel T R) (hT : T.Is W) (hp : PutT T k d T') (hq : PutR R k d R') : Rel T' R' := by
  have hs := h.some k
  rcases hp with ⟨r, h1, rfl⟩ | ⟨h1, h2, rv, B, rfl⟩ | ⟨h1, h2, rfl⟩
  · have hg : goodK k = true := by
      have := hT.good r (List.mem_of_find?_eq_some h1)
      rwa [(TT.find_mem h1).2.2] at this
    rcases hq with ⟨h3, _⟩ | ⟨_, a, x, b, h3, h4, h5, _⟩ | ⟨_, h3, _, _⟩
    · rw [h3] at hg; cases hg
    · exact (h.upd hT h1 h3 h4 R'.t R'.lv d R'.nx).es h5
    · rw [h1, h3] at hs; cases hs
  · rcases hq with ⟨h3, _⟩ | ⟨_, a, x, b, h3, h4, h5, _⟩ | ⟨_, h3, h4, _⟩
    · rw [h3] at h2; cases h2
    · rw [h1, h4] at hs; cases hs
    · exact (h.added rv R'.lv B R'.t k d R.nx R'.nx).es h4
  · rcases hq with ⟨h3, rfl⟩ | ⟨h3, _⟩ | ⟨h3, _⟩
    · exact h
    · rw [h3] at h2; cases h2
    · rw [h3] at h2; cases h2
theorem PutT.last {T T' : TT} {k : KK} {d : DD} (h : PutT T k d T') : T'.last ≤ T.last + 1 := by
  rcases h with ⟨r, h1, rfl⟩ | ⟨h1, h2, rv, B, rfl⟩ | ⟨h1, h2, rfl⟩
  · exact Nat.le_succ _
  · exact Nat.le_refl _
  · exact Nat.le_succ _
theorem upd_n (b : Nat) (d : DD) (q : RR) : (updR b d q).n = q.n := by unfold updR; split <;> rfl
theorem upd_b (b : Nat) (d : DD) (q : RR) : (updR b d q).b = q.b := by unfold updR; split <;> rfl
theorem al_put {T T' : TT} {R R' : RT} {W : World} {k : KK} {d : DD} {m : Nat} {a : Int} (h : Rel T R) (hT : T.Is W) (hp : PutT T k d T') (hq : PutR R k d R') (hm : m ≤ T.last) (ha : a < R.nx) (hal : T.live.map (fun r => decide (m < r.n)) = R.es.map (fun e => decide (a < e.n))) : T'.live.map (fun r => decide (m < r.n)) = R'.es.map (fun e => decide (a < e.n)) := by
  have hs := h.some k
  rcases hp with ⟨r, h1, rfl⟩ | ⟨h1, h2, rv, B, rfl⟩ | ⟨h1, h2, rfl⟩
  · have hg : goodK k = true := by
      have := hT.good r (List.mem_of_find?_eq_some h1)
      rwa [(TT.find_mem h1).2.2] at this
    have e : (T.upd r.b d).live.map (fun r => decide (m < r.n)) = T.live.map (fun r => decide (m < r.n)) := by
      rw [TT.upd_live, List.map_map]
      apply List.map_congr_left
      intro q _
      simp only [Function.comp, upd_n]
    rcases hq with ⟨h3, _⟩ | ⟨_, x1, x, x2, h3, h4, h5, _⟩ | ⟨_, h3, _, _⟩
    · rw [h3] at hg; cases hg
    · rw [e, hal, h3, h5]
      simp
    · rw [h1, h3] at hs; cases hs
  · rcases hq with ⟨h3, _⟩ | ⟨_, x1, x, x2, h3, h4, h5, _⟩ | ⟨_, h3, h4, _⟩
    · rw [h3] at h2; cases h2
    · rw [h1, h4] at hs; cases hs
    · rw [TT.added_live, h4, List.map_append, List.map_append, hal]
      have e1 : m < T.last + 1 := by omega
      simp [e1, ha]
  · rcases hq with ⟨h3, rfl⟩ | ⟨h3, _⟩ | ⟨h3, _⟩
    · exact hal
    · rw [h3] at h2; cases h2
    · rw [h3] at h2; cases h2
theorem ris_put {R R' : RT} {k : KK} {d : DD} (h : Ris R) (h0 : 0 ≤ R.nx) (hq : PutR R k d R') : Ris R' := by
  rcases hq with ⟨_, rfl⟩ | ⟨_, x1, x, x2, h3, _, h5, h6⟩ | ⟨_, _, h4, h5⟩
  · exact h
  · have e : R'.es.map (·.n) = R.es.map (·.n) := by rw [h5, h3]; simp
    unfold Ris
    rw [e, h6]
    exact h
  · unfold Ris
    rw [h4, h5, List.map_append]
    refine ⟨List.pairwise_append.2 ⟨h.1, by simp, fun a ha b hb => ?_⟩, fun z hz => ?_⟩
    · obtain rfl : b = R.nx := by simpa using hb
      exact (h.2 a ha).2
    · rcases List.mem_append.1 hz with hz | hz
      · have := h.2 z hz
        exact ⟨this.1, by omega⟩
      · obtain rfl : z = R.nx := by simpa using hz
        exact ⟨h0, by omega⟩
theorem PutT.mono {T T' : TT} {k : KK} {d : DD} (h : PutT T k d T') : T.last ≤ T'.last := by
  rcases h with ⟨r, h1, rfl⟩ | ⟨h1, h2, rv, B, rfl⟩ | ⟨h1, h2, rfl⟩
  · exact Nat.le_refl _
  · exact Nat.le_succ _
  · exact Nat.le_refl _
theorem put_rows {T T' : TT} {k : KK} {d : DD} (h : PutT T k d T') : ∀ r ∈ T.rows, ∃ r' ∈ T'.rows, r'.b = r.b ∧ r'.n = r.n := by
  intro q hq
  rcases h with ⟨r, h1, rfl⟩ | ⟨h1, h2, rv, B, rfl⟩ | ⟨h1, h2, rfl⟩
  · exact ⟨updR r.b d q, List.mem_map.2 ⟨q, hq, rfl⟩, upd_b _ _ _, upd_n _ _ _⟩
  · exact ⟨q, List.mem_append_left _ hq, rfl, rfl⟩
  · exact ⟨q, hq, rfl, rfl⟩
theorem put_nu {T T' : TT} {w w' : World} {k : KK} {d : DD} (hp : PutT T k d T') (hT : T.Is w) (hT' : T'.Is w') (hf : Fr w w' T.blocks) (hb : ∀ b ∈ T'.blocks, b ∈ T.blocks ∨ w.heap.size ≤ b) : T.Nu T' w w' := by
  have hr := put_rows hp
  refine ⟨fun b hbh => ?_, fun b hb hn => ?_⟩
  · rcases hb b (TT.hot_sub hbh) with h1 | h1
    · simp only [TT.blocks, List.mem_cons, List.mem_append] at h1
      simp only [TT.hot, List.mem_cons]
      rcases h1 with h | h | h | h
      · exact .inl (.inl h)
      · exact .inl (.inr (.inl h))
      · exact .inl (.inr (.inr h))
      · exfalso
        obtain ⟨r, hr1, rfl⟩ := List.mem_map.1 h
        obtain ⟨r', h2, h3, _⟩ := hr r hr1
        have hm : r.b ∈ T'.rows.map (·.b) := List.mem_map.2 ⟨r', h2, h3⟩
        have nd := hT'.nd
        unfold TT.blocks at nd
        unfold TT.hot at hbh
        simp only [List.nodup_cons, List.mem_cons, List.mem_append, List.nodup_append] at nd hbh
        obtain ⟨n1, n2, _, _, n3⟩ := nd
        rcases hbh with e | e | e
        · exact n1 (.inr (.inr (e ▸ hm)))
        · exact n2 (.inr (e ▸ hm))
        · exact n3 _ e _ hm rfl
    · exact .inr h1
  · by_cases hm : b ∈ T.rows.map (·.b)
    · obtain ⟨r, hr1, rfl⟩ := List.mem_map.1 hm
      obtain ⟨r', h1, h2, h3⟩ := hr r hr1
      have e1 := num_cell (hT.rows r hr1)
      have e2 := num_cell (hT'.rows r' h1)
      rw [h2, h3] at e2
      rw [e1, e2]
    · refine cell_blk (hf.block b hb (fun hb' => ?_))
      simp only [TT.blocks, List.mem_cons, List.mem_append] at hb'
      simp only [TT.hot, List.mem_cons] at hn
      rcases hb' with h | h | h | h
      · exact hn (.inl h)
      · exact hn (.inr (.inl h))
      · exact hn (.inr (.inr h))
      · exact hm h
/-- The cuts behind a call on the first table, and one on the document's. -/
theorem PS.Is.cuts {S : PS} {w w2 w3 w4 : World} {base N : Nat} (h : S.Is w base N) {T' : TT} {R' : RT} (nu : S.T0.Nu T' w w2) (hs : w.heap.size ≤ w2.heap.size) (hb3 : Below w2.heap.size w2 w3) (hf : Fr w3 w4 S.R0.blocks) (hn : ∀ b ∈ R'.blocks, b ∈ S.R0.blocks ∨ w3.heap.size ≤ b) (hl : S.T0.last ≤ T'.last) (hx : S.R0.nx ≤ R'.nx)
    (hal : ∀ c ∈ S.C, T'.live.map (fun r => decide (c.m < r.n)) = R'.es.map (fun e => decide (c.a < e.n))) : ∀ c ∈ S.C, CutIs { S with T0 := T', R0 := R' } w4 c := by
  intro c hc
  have s3 : w.heap.size ≤ w3.heap.size := Nat.le_trans hs hb3.size
  refine (h.cut c hc).step (S' := { S with T0 := T', R0 := R' }) hl hx (hal c hc) (Nat.le_trans s3 hf.size) (fun b hb => ?_) (fun b hb hn' => ?_)
  · simp only [PS.hot, List.mem_cons, List.mem_append] at hb ⊢
    rcases hb with h1 | h1 | h1 | h1 | h1
    · exact .inl (.inl h1)
    · rcases nu.hot b h1 with h2 | h2
      · exact .inl (.inr (.inl h2))
      · exact .inr h2
    · exact .inl (.inr (.inr (.inl h1)))
    · rcases hn b h1 with h2 | h2
      · exact .inl (.inr (.inr (.inr (.inl h2))))
      · exact .inr (Nat.le_trans s3 h2)
    · exact .inl (.inr (.inr (.inr (.inr h1))))
  · simp only [PS.hot, List.mem_cons, List.mem_append] at hn'
    have e1 := nu.keep b hb (fun h1 => hn' (.inr (.inl h1)))
    have e2 : w3.cell? ⟨b, 20, none⟩ = w2.cell? ⟨b, 20, none⟩ := cell_blk (hb3.block b (Nat.lt_of_lt_of_le hb hs))
    have e3 : w4.cell? ⟨b, 20, none⟩ = w3.cell? ⟨b, 20, none⟩ := cell_blk (hf.block b (Nat.lt_of_lt_of_le hb s3) (fun h1 => hn' (.inr (.inr (.inr (.inl h1))))))
    exact e3.trans (e2.trans e1)
def actCs (kd : Int) (k : KK) (d : DD) (n : Int) (inner : Value) : List Value := .int .i64 kd :: (k.cs ++ (d.cs ++ [.int .i64 n, inner]))
def actV (kd : Int) (k : KK) (d : DD) (n : Int) (inner : Value) : Value := .agg (actCs kd k d n inner).toArray
theorem num11 (n : Int) (h : 0 ≤ n ∧ n ≤ 1000) (w : World) : Calls Tryz.prog 11 #[.int .i64 n] w fun e w' => e = .returned (.int .i64 n) ∧ Below w.heap.size w w' := by
  have hw : IntKind.i64.wrap n = n := by rw [IntKind.wrap_i64]; omega
  go_enter Tryz.func11, Tryz.ntmps11
  go_wp2
  go_ret
  exact ⟨rfl, Below.refl _ _⟩
theorem eqlI (n : Int) (w : World) : (binOp .eql 3 (.int .i64 n) (.int .i64 n)).run Tryz.prog w = .ok (.bool true) w := by
  simp [go_sem]
theorem errOf_le (k : KK) : 0 ≤ errOf k ∧ errOf k ≤ 1000 := by
  unfold errOf
  split <;> decide
theorem gcallR {md : Region.Mode} {ops : Array Oper} {Q : Exit → Act → World → Prop} {S : World → Prop} {w : World} {fuel : Nat} {listed : Array Bool} {a : Act} {o : Oper} (i : Nat) (dst : Option Tmp) {f : FuncId} {args : Array Value} {R : Ending → World → Prop} {rs : List Nat} (hi : ops[i]? = some o) (hd : o.dst = dst) (hw : Region.wanted o (yielded ops a.tmps) = true)
    (he : (execOp a.eval o).run Tryz.prog w = .ok (.enter f args) w) (hC : Calls Tryz.prog f args w R)
    (h : ∀ e X, R e X → ∃ V, e = .returned V ∧ S X ∧ wpAnyH Tryz.prog md ops Q S fuel (listed.setIfInBounds i true) (a.put dst V) X) (hs : AllReadyH Tryz.prog md ops Q S fuel listed a w rs) : AllReadyH Tryz.prog md ops Q S fuel listed a w (i :: rs) := by
  subst hd
  refine AllReadyH.cons hi (fun K hK => ?_) hs
  rw [if_pos hw]
  unfold Oper.wp
  rw [he, Oper.upon_enter]
  refine hC.mono ?_
  intro e X hR
  obtain ⟨V, rfl, hSX, hV⟩ := h e X hR
  exact hK.out _ _ hSX (fun _ => hV)
theorem row41 : ∃ d, Tryz.prog.underlying 41 = some d ∧ d.isRow = true := ⟨_, Tryz.underlying41, rfl⟩
theorem siz41 : (Tryz.prog.info? 41).map (·.size) = some 23 := by kernel_rfl
theorem put12e (T : TT) (k : KK) (d : DD) (w : World) (hT : T.Is w) (hU : Lib.Utf8Tabs 2 3 w) (hk : OkK k) (hl : T.last < 4000000) (hTT : ∀ b ∈ T.blocks, 4 ≤ b) : Calls Tryz.prog 12 #[.pointer (some ⟨T.t, 0, none⟩), k.agg, d.agg] w fun e w' => e = .returned (.int .i64 (errOf k)) ∧ ∃ T' : TT, T'.Is w' ∧ T'.t = T.t ∧ Fr w w' T.blocks ∧ (∀ b ∈ T'.blocks, b ∈ T.blocks ∨ w.heap.size ≤ b) ∧ PutT T k d T' := put12 T k d w hT hU hk hl hTT
theorem below_dr {n : Nat} {a w : World} (h : Below n a w) : Below n a w.drew := ⟨h.os, h.tape, h.output, h.size, h.block⟩
set_option maxRecDepth 100000 in
theorem play_put (S : PS) (k : KK) (d : DD) (nn : Int) (inner : Value) (dep : Int) (w : World) (base N : Nat) (hS : S.Is w base N) (hN : N < 800000) (hU : Lib.Utf8Tabs 2 3 w) (hk : OkK k) : Calls Tryz.prog 8 #[.pointer (some ⟨S.P, 0, none⟩), actV 1 k d nn inner, .int .i64 dep] w fun e w' => e = .returned (.bool true) ∧ ∃ S', S'.Is w' base (N + 1) ∧ Went S S' w w' := by
  have HU := hide (And.intro hU hk)
  clear hU hk
  have HP := hide hS.bs.hold
  have HLT := hide hS.bs.lt
  have HS := hide hS
  clear hS
  unfold actV
  go_enter Tryz.func8, Tryz.ntmps8
  go_wp2_with (first | go_skip | (refine bx 41 (actCs 1 k d nn inner) (by rfl) rfl rfl rfl (Nat.succ_pos _) (Hq.nil w []) ?_; intro w1 B hB L1 hb1; replace HP := hide ((unhide HS).bs.on hb1).hold; replace HS := hide ((unhide HS).on hb1); have LL := hide L1; have HB1 := hide hb1; have HB := hide hB; clear hB L1 hb1; simp only [Act.put, nzA, nzB, nzC]) | (refine rd (by rfl) (ex_load1 26 Tryz.isAgg26 rfl rfl (unhide HP) rfl) ?_; simp only [Act.put, nzA, nzB, nzC]) | (refine rd (by rfl) (ex_load1 28 Tryz.isAgg28 rfl rfl (unhide HP) rfl) ?_; simp only [Act.put, nzA, nzB, nzC]) | (refine rd (by rfl) (ex_load1 3 Tryz.isAgg3 rfl rfl ((unhide LL).get 0 rfl) rfl) ?_; simp only [Act.put, nzA, nzB, nzC]))
  refine wp_region_held_drew (P := Tryz.prog) (S := fun X => Holds X B (actCs 1 k d nn inner)) (by kernel_rfl) (((unhide LL).get 0 rfl).block rfl) (fun hS0 => ?_)
  refine gsem 0 (some 32) (.pointer (some ⟨S.T0.t, 0, none⟩)) rfl (by kernel_rfl) (by kernel_rfl) (by kernel_rfl) (fun _ _ _ h => h) (by kernel_rfl) (by kernel_rfl) (fun _ _ => by kernel_rfl) hS0 ?_
  simp only [Act.put, nzA, nzB, nzC]
  refine gsem 1 (some 33) (.pointer (some ⟨B, 1, none⟩)) rfl (by kernel_rfl) (by kernel_rfl) (by kernel_rfl) (fun _ _ _ h => h) (by kernel_rfl) (by kernel_rfl) (fun _ _ => by kernel_rfl) hS0 ?_
  simp only [Act.put, nzA, nzB, nzC]
  refine gsem 2 (some 34) (k.agg) rfl (by kernel_rfl) (by kernel_rfl) (by kernel_rfl) (fun _ _ _ h => h) (by kernel_rfl) (by kernel_rfl) (fun X hX => ex_loadN (vs := k.cs) 33 2 row33x siz33 rfl rfl (hX) rfl rfl) hS0 ?_
  simp only [Act.put, nzA, nzB, nzC]
  refine gsem 3 (some 35) (.pointer (some ⟨B, 3, none⟩)) rfl (by kernel_rfl) (by kernel_rfl) (by kernel_rfl) (fun _ _ _ h => h) (by kernel_rfl) (by kernel_rfl) (fun _ _ => by kernel_rfl) hS0 ?_
  simp only [Act.put, nzA, nzB, nzC]
  refine gsem 4 (some 36) (d.agg) rfl (by kernel_rfl) (by kernel_rfl) (by kernel_rfl) (fun _ _ _ h => h) (by kernel_rfl) (by kernel_rfl) (fun X hX => ex_loadN (vs := d.cs) 39 18 row39 siz39 rfl rfl (hX) rfl rfl) hS0 ?_
  simp only [Act.put, nzA, nzB, nzC]
  refine gsem 7 (some 39) (.pointer (some ⟨S.R0.t, 0, none⟩)) rfl (by kernel_rfl) (by kernel_rfl) (by kernel_rfl) (fun _ _ _ h => h) (by kernel_rfl) (by kernel_rfl) (fun _ _ => by kernel_rfl) hS0 ?_
  simp only [Act.put, nzA, nzB, nzC]
  refine gsem 8 (some 40) (.pointer (some ⟨B, 1, none⟩)) rfl (by kernel_rfl) (by kernel_rfl) (by kernel_rfl) (fun _ _ _ h => h) (by kernel_rfl) (by kernel_rfl) (fun _ _ => by kernel_rfl) hS0 ?_
  simp only [Act.put, nzA, nzB, nzC]
  refine gsem 9 (some 41) (k.agg) rfl (by kernel_rfl) (by kernel_rfl) (by kernel_rfl) (fun _ _ _ h => h) (by kernel_rfl) (by kernel_rfl) (fun X hX => ex_loadN (vs := k.cs) 33 2 row33x siz33 rfl rfl (hX) rfl rfl) hS0 ?_
  simp only [Act.put, nzA, nzB, nzC]
  refine gsem 10 (some 42) (.pointer (some ⟨B, 3, none⟩)) rfl (by kernel_rfl) (by kernel_rfl) (by kernel_rfl) (fun _ _ _ h => h) (by kernel_rfl) (by kernel_rfl) (fun _ _ => by kernel_rfl) hS0 ?_
  simp only [Act.put, nzA, nzB, nzC]
  refine gsem 11 (some 43) (d.agg) rfl (by kernel_rfl) (by kernel_rfl) (by kernel_rfl) (fun _ _ _ h => h) (by kernel_rfl) (by kernel_rfl) (fun X hX => ex_loadN (vs := d.cs) 39 18 row39 siz39 rfl rfl (hX) rfl rfl) hS0 ?_
  simp only [Act.put, nzA, nzB, nzC]
  have h1 := (unhide HS).drew
  have hz := (unhide HS).last.1
  have hes := (unhide HS).es0
  have hnx := (unhide HS).nx
  refine wpAnyH_ready (rs := [5]) (by kernel_rfl) (by simp) (gcallR 5 (some 37) rfl (by kernel_rfl) (by kernel_rfl) (by kernel_rfl) (put12e S.T0 k d w1.drew h1.bs.t0 (tabs_fr (unhide HU).1 (Fr.of_below (below_dr (unhide HB1)) []) (by simp)) (unhide HU).2 (by omega) h1.bs.four0) ?_ AllReadyH.nil)
  rintro _ w2 ⟨rfl, T', hT', ht, hf, hb, hp⟩
  have hBS : B < w1.drew.heap.size := hS0.lt (Nat.succ_pos _)
  have hB2 : B ∉ S.T0.blocks := fun h => by
    have := (unhide HLT) S.T0.blocks (by simp [PS.parts]) B h
    have e := unhide HB
    omega
  have hB3 : B ∉ S.R0.blocks := fun h => by
    have := (unhide HLT) S.R0.blocks (by simp [PS.parts]) B h
    have e := unhide HB
    omega
  have hS2 : Holds w2 B (actCs 1 k d nn inner) := hS0.block (hf.block B hBS hB2)
  obtain ⟨hbs2, hwn2⟩ := h1.bs.table0 hT' ht hf hb
  refine ⟨_, rfl, hS2, ?_⟩
  simp only [Act.put, nzA, nzB, nzC]
  refine wpAnyH_ready (rs := [6]) (by kernel_rfl) (by simp) (gcallR 6 (some 38) rfl (by kernel_rfl) (by kernel_rfl) (by kernel_rfl) (num11 (errOf k) (errOf_le k) w2) ?_ AllReadyH.nil)
  rintro _ w3 ⟨rfl, hb3⟩
  have hS3 : Holds w3 B (actCs 1 k d nn inner) := hS2.block (hb3.block B (hS2.lt (Nat.succ_pos _)))
  have hbs3 := hbs2.on hb3
  refine ⟨_, rfl, hS3, ?_⟩
  simp only [Act.put, nzA, nzB, nzC]
  refine wpAnyH_ready (rs := [12]) (by kernel_rfl) (by simp) (gcallR 12 (some 44) rfl (by kernel_rfl) (by kernel_rfl) (by kernel_rfl) (refPut13 S.R0 k d w3 hbs3.r0 (by omega) ⟨hnx.1, by omega⟩) ?_ AllReadyH.nil)
  rintro _ w4 ⟨rfl, R', hR', htr, hfr, hbr, hnr, hq⟩
  obtain ⟨hbs4, hwn4⟩ := hbs3.doc0 hR' htr hfr hbr
  have hS4 : Holds w4 B (actCs 1 k d nn inner) := hS3.block (hfr.block B (hS3.lt (Nat.succ_pos _)) hB3)
  have FIN : Hid (∃ S', PS.Is S' w4 base (N + 1) ∧ Went S S' w w4) := hide ⟨_, ⟨hbs4, rel_put h1.rel0 h1.bs.t0 hp hq, h1.rel1, ⟨Nat.le_trans hp.last (by omega), Nat.le_trans h1.last.2 (Nat.le_succ _)⟩, ⟨by rcases hnr with e | e <;> (show 0 ≤ R'.nx; omega), by rcases hnr with e | e <;> (show R'.nx ≤ ((N + 1 : Nat) : Int); omega), hnx.2.2.1, by have := hnx.2.2.2; show S.R1.nx ≤ ((N + 1 : Nat) : Int); omega⟩, ⟨ris_put h1.ris.1 hnx.1 hq, h1.ris.2⟩, h1.cuts (put_nu hp h1.bs.t0 hT' hf hb) hf.size hb3 hfr hbr hp.mono (by rcases hnr with e | e <;> omega) (fun c hc => al_put h1.rel0 h1.bs.t0 hp hq (h1.cut c hc).m (h1.cut c hc).a (h1.cut c hc).al)⟩, (Went.refl S (below_dr (unhide HB1))).trans (hwn2.trans ((Went.refl _ hb3).trans hwn4))⟩
  refine ⟨_, rfl, hS4, ?_⟩
  clear hbs4 hwn4 hR' htr hfr hbr hnr hq hbs3 hS3 hb3 hbs2 hwn2 hS2 hT' ht hf hb hp hBS hB2 hB3 hz hes hnx h1 hS0
  simp only [Act.put, nzA, nzB, nzC]
  refine gbin 13 (some 45) (b := .eql) (t := 3) (t2 := 3) (x := .tmp 38) (y := .tmp 44) (vx := .int .i64 (errOf k)) (vy := .int .i64 (errOf k)) (.bool true) rfl (by kernel_rfl) (by kernel_rfl) (by kernel_rfl) (fun _ _ _ h => h) (by kernel_rfl) (by kernel_rfl) (by kernel_rfl) (by kernel_rfl) (by kernel_rfl) (fun w => eqlI (errOf k) w) (fun _ => by kernel_rfl) hS4 ?_
  simp only [Act.put, nzA, nzB, nzC]
  refine gsem 14 (some 6) (.bool true) rfl (by kernel_rfl) (by kernel_rfl) (by kernel_rfl) (fun _ _ _ h => h) (by kernel_rfl) (by kernel_rfl) (fun _ _ => by kernel_rfl) hS4 ?_
  simp only [Act.put, nzA, nzB, nzC]
  refine wpAnyH_done (by kernel_rfl) ?_ _
  try simp only [Act.put, nzA, nzB, nzC]
  clear hS4
  go_wp2
  go_ret
  exact ⟨rfl, unhide FIN⟩
set_option maxRecDepth 100000 in
theorem play_get (S : PS) (k : KK) (d : DD) (nn : Int) (inner : Value) (dep : Int) (w : World) (base N : Nat) (hS : S.Is w base N) (hN : N < 800000) (hk : OkK k) : Calls Tryz.prog 8 #[.pointer (some ⟨S.P, 0, none⟩), actV 5 k d nn inner, .int .i64 dep] w fun e w' => e = .returned (.bool true) ∧ Below w.heap.size w w' := by
  have hr := hS.rel0.getD k
  have hr2 := hS.rel0.some k
  have hes := hS.es0
  obtain ⟨dd, hdd⟩ : ∃ dd, dd = getD S.T0 k := ⟨_, rfl⟩
  obtain ⟨ff, hff⟩ : ∃ ff, ff = (S.T0.find k).isSome := ⟨_, rfl⟩
  have C19 : Hid (∀ X, Below w.heap.size w X → Calls Tryz.prog 19 #[.pointer (some ⟨S.T0.t, 0, none⟩), k.agg] X fun e w' => e = .returned (.tuple #[dd.agg, .bool ff]) ∧ Below X.heap.size X w') := hide (fun X hX => by rw [hdd, hff]; exact get19 S.T0 k X (hS.bs.t0.on hX) hk)
  have C20 : Hid (∀ X, Below w.heap.size w X → Calls Tryz.prog 20 #[.pointer (some ⟨S.R0.t, 0, none⟩), k.agg] X fun e w' => e = .returned (.tuple #[dd.agg, .bool ff]) ∧ Below X.heap.size X w') := hide (fun X hX => by rw [hdd, hff, hr, hr2]; exact refGet20 S.R0 k X (hS.bs.r0.on hX) (by omega))
  clear hdd hff hr hr2 hes hk
  have HP := hide hS.bs.hold
  have HLT := hide hS.bs.lt
  have HS := hide hS
  clear hS
  unfold actV
  go_enter Tryz.func8, Tryz.ntmps8
  go_wp2_with (first | go_skip | (refine bx 41 (actCs 5 k d nn inner) (by rfl) rfl rfl rfl (Nat.succ_pos _) (Hq.nil w []) ?_; intro w1 B hB L1 hb1; replace HP := hide ((unhide HS).bs.on hb1).hold; replace HS := hide ((unhide HS).on hb1); have LL := hide L1; have HB1 := hide hb1; have HB := hide hB; clear hB L1 hb1; simp only [Act.put, nzA, nzB, nzC]) | (refine rd (by rfl) (ex_load1 26 Tryz.isAgg26 rfl rfl (unhide HP) rfl) ?_; simp only [Act.put, nzA, nzB, nzC]) | (refine rd (by rfl) (ex_load1 28 Tryz.isAgg28 rfl rfl (unhide HP) rfl) ?_; simp only [Act.put, nzA, nzB, nzC]) | (refine rd (by rfl) (ex_load1 3 Tryz.isAgg3 rfl rfl ((unhide LL).get 0 rfl) rfl) ?_; simp only [Act.put, nzA, nzB, nzC]) | (refine rd (by rfl) (ex_loadN (vs := k.cs) 33 2 row33x siz33 rfl rfl ((unhide LL).get 0 rfl) rfl rfl) ?_; simp only [Act.put, nzA, nzB, nzC]))
  refine ((unhide C19) w1 (unhide HB1)).mono ?_
  rintro _ w2 ⟨rfl, hb2⟩
  replace LL := hide ((unhide LL).on hb2)
  clear HS HP HB HB1 hb2
  have HG : Hid (w.heap.size ≤ w2.heap.size) := hide (unhide LL).fr.size
  unfold DD.agg
  go_wp2_with (first | go_skip | (refine al39 (by rfl) rfl (unhide LL) ?_; intro w3 B3 hB3 L3 hb3; replace LL := hide L3; replace HG : Hid (w.heap.size ≤ B3) := hide (hB3 ▸ unhide HG); clear L3 hB3 hb3; simp only [Act.put, nzA, nzB, nzC]) | (refine st (vs := dd.cs) 1 39 (by rfl) rfl rfl rfl rfl (by simp [DD.cs, VV.cs, Value.oneCell']) siz39 (unhide LL) rfl (by simp [dcs_length, zeroD, zeroV]) (Or.inr (unhide HG)) ?_; intro w3 L3 hf3 hs3; replace LL := hide L3; clear L3 hf3 hs3; simp only [Act.put, nzA, nzB, nzC]) | (refine rd (by rfl) (ex_loadN (vs := k.cs) 33 2 row33x siz33 rfl rfl ((unhide LL).get 0 rfl) rfl rfl) ?_; simp only [Act.put, nzA, nzB, nzC]))
  refine ((unhide C20) w3 (unhide LL).fr.below).mono ?_
  rintro _ w4 ⟨rfl, hb4⟩
  replace LL := hide ((unhide LL).on hb4)
  clear hb4
  replace HG : Hid (w.heap.size ≤ w4.heap.size) := hide (unhide LL).fr.size
  unfold DD.agg
  go_wp2_with (first | go_skip | (refine al39 (by rfl) rfl (unhide LL) ?_; intro w3 B3 hB3 L3 hb3; replace LL := hide L3; replace HG : Hid (w.heap.size ≤ B3) := hide (hB3 ▸ unhide HG); clear L3 hB3 hb3; simp only [Act.put, nzA, nzB, nzC]) | (refine st (vs := dd.cs) 2 39 (by rfl) rfl rfl rfl rfl (by simp [DD.cs, VV.cs, Value.oneCell']) siz39 (unhide LL) rfl (by simp [dcs_length, zeroD, zeroV]) (Or.inr (unhide HG)) ?_; intro w3 L3 hf3 hs3; replace LL := hide L3; clear L3 hf3 hs3; simp only [Act.put, nzA, nzB, nzC]) | (refine rd (by rfl) (ex_loadN (vs := dd.cs) 39 18 row39 siz39 rfl rfl ((unhide LL).get 1 rfl) rfl rfl) ?_; simp only [Act.put, nzA, nzB, nzC]) | (refine rd (by rfl) (ex_loadN (vs := dd.cs) 39 18 row39 siz39 rfl rfl ((unhide LL).get 2 rfl) rfl rfl) ?_; simp only [Act.put, nzA, nzB, nzC]))
  refine (sameDesc21 dd _).mono ?_
  rintro _ w5 ⟨rfl, hb5⟩
  replace LL := hide ((unhide LL).on hb5)
  clear hb5
  go_wp2
  go_ret
  exact ⟨rfl, (unhide LL).fr.below⟩
