import Derived.Test.YtmgflhhealdfoaaGreatDoorQm
set_option linter.all false
namespace Go.Proofs.YtmgflhhealdfoaaGreatDoor
section
open Go Go.Proofs Go.RowKit FM
theorem below_setCellsD {w W : World} {b : Nat} (hb : w.heap.size ≤ b) : ∀ (vs : List Value) (o : Nat) (W : World), Below w.heap.size w W → Below w.heap.size w (W.setCells b o vs)
  | [], _, _, h => h
  | v :: r, o, W, h => below_setCellsD (W := W) hb r (o + 1) _ (h.setCell hb v)
theorem size_setCellsD {b : Nat} : ∀ (vs : List Value) (o : Nat) (W : World), (W.setCells b o vs).heap.size = W.heap.size
  | [], _, _ => rfl
  | v :: r, o, W => by
    rw [World.setCells, size_setCellsD r (o + 1)]
    simp
theorem PB.far {W : World} {B b o : Nat} {vs : List Value} {p : PB} (h : p.lies W B) (hne : B ≠ b) : p.lies (W.setCells b o vs) B := by
  cases p
  · unfold PB.lies Lies at *
    simp only [World.frozen?_setCells, World.cell?_setCells_out b vs o W ⟨B, _, none⟩ (fun h1 _ => absurd h1 hne)]
    exact h
  · unfold PB.lies VLies at *
    simp only [World.frozen?_setCells, World.cell?_setCells_out b vs o W ⟨B, _, none⟩ (fun h1 _ => absurd h1 hne)]
    exact h
theorem HoldsP.far {W : World} {b o : Nat} {vs : List Value} : ∀ {l : List PB} {B : Nat}, HoldsP W B l → b < B → HoldsP (W.setCells b o vs) B l
  | [], _, _, _ => trivial
  | _ :: _, _, h, hb => ⟨PB.far h.1 (by omega), HoldsP.far h.2 (by omega)⟩
theorem HoldsP.at {W : World} : ∀ {l : List PB} {B i : Nat} {q : PB}, HoldsP W B l → l[i]? = some q → q.lies W (B + i)
  | p :: r, B, 0, q, h, hi => by
    obtain rfl : p = q := by simpa using hi
    exact h.1
  | p :: r, B, i + 1, q, h, hi => by
    have := HoldsP.at h.2 (i := i) (q := q) (by simpa using hi)
    rw [Nat.add_right_comm] at this
    exact this
theorem HoldsP.set {W : World} {b o : Nat} {vs : List Value} {p q : PB} (hp : q.lies W b → p.lies (W.setCells b o vs) b) : ∀ {l : List PB} {B i : Nat}, HoldsP W B l → b = B + i → l[i]? = some q → HoldsP (W.setCells b o vs) B (l.set i p)
  | q' :: r, B, 0, h, hb, hi => by
    obtain rfl : b = B := by omega
    obtain rfl : q' = q := by simpa using hi
    exact ⟨hp h.1, HoldsP.far h.2 (by omega)⟩
  | q' :: r, B, i + 1, h, hb, hi => ⟨PB.far h.1 (by omega), HoldsP.set hp h.2 (by omega) (by simpa using hi)⟩
theorem Lie.put {w W : World} {l : List PB} {i o : Nat} {vs : List Value} {p q : PB} (h : Lie w W l) (hi : l[i]? = some q) (hp : q.lies W (w.heap.size + i) → p.lies (W.setCells (w.heap.size + i) o vs) (w.heap.size + i)) :
    Lie w (W.setCells (w.heap.size + i) o vs) (l.set i p) :=
  ⟨below_setCellsD (W := W) (Nat.le_add_right _ _) _ _ _ h.below, by rw [size_setCellsD, List.length_set]; exact h.size, h.holds.set hp rfl hi⟩
theorem cell_in {W : World} {b o j : Nat} {vs : List Value} {v : Value} (hs : ∀ j, j < vs.length → (W.cell? ⟨b, o + j, none⟩).isSome = true) (hv : vs[j]? = some v) : (W.setCells b o vs).cell? ⟨b, o + j, none⟩ = some v := by
  obtain ⟨hj, e⟩ := List.getElem?_eq_some_iff.1 hv
  rw [World.cell?_setCells_in b vs o W hs j hj, e]
theorem cell_out {W : World} {b o j : Nat} {vs : List Value} (hj : j < o ∨ o + vs.length ≤ j) : (W.setCells b o vs).cell? ⟨b, j, none⟩ = W.cell? ⟨b, j, none⟩ :=
  World.cell?_setCells_out b vs o W ⟨b, j, none⟩ (fun _ _ => hj)
theorem Lies.setD {W : World} {B : Nat} {d : DD} {d' : DD} (h : Lies W B d) : Lies (W.setCells B 0 d'.cs) B d' := by
  obtain ⟨f, h0, h1, h2, h3, h4, h5, h6, h7, h8, h9, h10, h11, h12, h13, h14, h15, h16, h17⟩ := h
  have hs : ∀ j, j < 18 → (W.cell? ⟨B, 0 + j, none⟩).isSome = true := by
    intro j hj
    match j, hj with
    | 0, _ => exact h0 ▸ rfl
    | 1, _ => exact h1 ▸ rfl
    | 2, _ => exact h2 ▸ rfl
    | 3, _ => exact h3 ▸ rfl
    | 4, _ => exact h4 ▸ rfl
    | 5, _ => exact h5 ▸ rfl
    | 6, _ => exact h6 ▸ rfl
    | 7, _ => exact h7 ▸ rfl
    | 8, _ => exact h8 ▸ rfl
    | 9, _ => exact h9 ▸ rfl
    | 10, _ => exact h10 ▸ rfl
    | 11, _ => exact h11 ▸ rfl
    | 12, _ => exact h12 ▸ rfl
    | 13, _ => exact h13 ▸ rfl
    | 14, _ => exact h14 ▸ rfl
    | 15, _ => exact h15 ▸ rfl
    | 16, _ => exact h16 ▸ rfl
    | 17, _ => exact h17 ▸ rfl
    | j + 18, hj => exact absurd hj (by omega)
  refine ⟨fun j => (World.frozen?_setCells _ _ _ _ _).trans (f j), ?_, ?_, ?_, ?_, ?_, ?_, ?_, ?_, ?_, ?_, ?_, ?_, ?_, ?_, ?_, ?_, ?_, ?_⟩
  · exact cell_in (o := 0) (j := 0) hs rfl
  · exact cell_in (o := 0) (j := 1) hs rfl
  · exact cell_in (o := 0) (j := 2) hs rfl
  · exact cell_in (o := 0) (j := 3) hs rfl
  · exact cell_in (o := 0) (j := 4) hs rfl
  · exact cell_in (o := 0) (j := 5) hs rfl
  · exact cell_in (o := 0) (j := 6) hs rfl
  · exact cell_in (o := 0) (j := 7) hs rfl
  · exact cell_in (o := 0) (j := 8) hs rfl
  · exact cell_in (o := 0) (j := 9) hs rfl
  · exact cell_in (o := 0) (j := 10) hs rfl
  · exact cell_in (o := 0) (j := 11) hs rfl
  · exact cell_in (o := 0) (j := 12) hs rfl
  · exact cell_in (o := 0) (j := 13) hs rfl
  · exact cell_in (o := 0) (j := 14) hs rfl
  · exact cell_in (o := 0) (j := 15) hs rfl
  · exact cell_in (o := 0) (j := 16) hs rfl
  · exact cell_in (o := 0) (j := 17) hs rfl
theorem Lies.setv {W : World} {B : Nat} {d : DD} {u : VV} (h : Lies W B d) : Lies (W.setCells B 0 u.cs) B { d with v := u } := by
  obtain ⟨f, h0, h1, h2, h3, h4, h5, h6, h7, h8, h9, h10, h11, h12, h13, h14, h15, h16, h17⟩ := h
  have hs : ∀ j, j < 5 → (W.cell? ⟨B, 0 + j, none⟩).isSome = true := by
    intro j hj
    match j, hj with
    | 0, _ => exact h0 ▸ rfl
    | 1, _ => exact h1 ▸ rfl
    | 2, _ => exact h2 ▸ rfl
    | 3, _ => exact h3 ▸ rfl
    | 4, _ => exact h4 ▸ rfl
    | j + 5, hj => exact absurd hj (by omega)
  refine ⟨fun j => (World.frozen?_setCells _ _ _ _ _).trans (f j), ?_, ?_, ?_, ?_, ?_, ?_, ?_, ?_, ?_, ?_, ?_, ?_, ?_, ?_, ?_, ?_, ?_, ?_⟩
  · exact cell_in (o := 0) (j := 0) hs rfl
  · exact cell_in (o := 0) (j := 1) hs rfl
  · exact cell_in (o := 0) (j := 2) hs rfl
  · exact cell_in (o := 0) (j := 3) hs rfl
  · exact cell_in (o := 0) (j := 4) hs rfl
  · exact (cell_out (by simp [VV.cs])).trans h5
  · exact (cell_out (by simp [VV.cs])).trans h6
  · exact (cell_out (by simp [VV.cs])).trans h7
  · exact (cell_out (by simp [VV.cs])).trans h8
  · exact (cell_out (by simp [VV.cs])).trans h9
  · exact (cell_out (by simp [VV.cs])).trans h10
  · exact (cell_out (by simp [VV.cs])).trans h11
  · exact (cell_out (by simp [VV.cs])).trans h12
  · exact (cell_out (by simp [VV.cs])).trans h13
  · exact (cell_out (by simp [VV.cs])).trans h14
  · exact (cell_out (by simp [VV.cs])).trans h15
  · exact (cell_out (by simp [VV.cs])).trans h16
  · exact (cell_out (by simp [VV.cs])).trans h17
theorem Lies.setg {W : World} {B : Nat} {d : DD} {u : VV} (h : Lies W B d) : Lies (W.setCells B 5 u.cs) B { d with g := u } := by
  obtain ⟨f, h0, h1, h2, h3, h4, h5, h6, h7, h8, h9, h10, h11, h12, h13, h14, h15, h16, h17⟩ := h
  have hs : ∀ j, j < 5 → (W.cell? ⟨B, 5 + j, none⟩).isSome = true := by
    intro j hj
    match j, hj with
    | 0, _ => exact h5 ▸ rfl
    | 1, _ => exact h6 ▸ rfl
    | 2, _ => exact h7 ▸ rfl
    | 3, _ => exact h8 ▸ rfl
    | 4, _ => exact h9 ▸ rfl
    | j + 5, hj => exact absurd hj (by omega)
  refine ⟨fun j => (World.frozen?_setCells _ _ _ _ _).trans (f j), ?_, ?_, ?_, ?_, ?_, ?_, ?_, ?_, ?_, ?_, ?_, ?_, ?_, ?_, ?_, ?_, ?_, ?_⟩
  · exact (cell_out (by simp [VV.cs])).trans h0
  · exact (cell_out (by simp [VV.cs])).trans h1
  · exact (cell_out (by simp [VV.cs])).trans h2
  · exact (cell_out (by simp [VV.cs])).trans h3
  · exact (cell_out (by simp [VV.cs])).trans h4
  · exact cell_in (o := 5) (j := 0) hs rfl
  · exact cell_in (o := 5) (j := 1) hs rfl
  · exact cell_in (o := 5) (j := 2) hs rfl
  · exact cell_in (o := 5) (j := 3) hs rfl
  · exact cell_in (o := 5) (j := 4) hs rfl
  · exact (cell_out (by simp [VV.cs])).trans h10
  · exact (cell_out (by simp [VV.cs])).trans h11
  · exact (cell_out (by simp [VV.cs])).trans h12
  · exact (cell_out (by simp [VV.cs])).trans h13
  · exact (cell_out (by simp [VV.cs])).trans h14
  · exact (cell_out (by simp [VV.cs])).trans h15
  · exact (cell_out (by simp [VV.cs])).trans h16
  · exact (cell_out (by simp [VV.cs])).trans h17
theorem Lies.sets {W : World} {B : Nat} {d : DD} {u : VV} (h : Lies W B d) : Lies (W.setCells B 10 u.cs) B { d with s := u } := by
  obtain ⟨f, h0, h1, h2, h3, h4, h5, h6, h7, h8, h9, h10, h11, h12, h13, h14, h15, h16, h17⟩ := h
  have hs : ∀ j, j < 5 → (W.cell? ⟨B, 10 + j, none⟩).isSome = true := by
    intro j hj
    match j, hj with
    | 0, _ => exact h10 ▸ rfl
    | 1, _ => exact h11 ▸ rfl
    | 2, _ => exact h12 ▸ rfl
    | 3, _ => exact h13 ▸ rfl
    | 4, _ => exact h14 ▸ rfl
    | j + 5, hj => exact absurd hj (by omega)
  refine ⟨fun j => (World.frozen?_setCells _ _ _ _ _).trans (f j), ?_, ?_, ?_, ?_, ?_, ?_, ?_, ?_, ?_, ?_, ?_, ?_, ?_, ?_, ?_, ?_, ?_, ?_⟩
  · exact (cell_out (by simp [VV.cs])).trans h0
  · exact (cell_out (by simp [VV.cs])).trans h1
  · exact (cell_out (by simp [VV.cs])).trans h2
  · exact (cell_out (by simp [VV.cs])).trans h3
  · exact (cell_out (by simp [VV.cs])).trans h4
  · exact (cell_out (by simp [VV.cs])).trans h5
  · exact (cell_out (by simp [VV.cs])).trans h6
  · exact (cell_out (by simp [VV.cs])).trans h7
  · exact (cell_out (by simp [VV.cs])).trans h8
  · exact (cell_out (by simp [VV.cs])).trans h9
  · exact cell_in (o := 10) (j := 0) hs rfl
  · exact cell_in (o := 10) (j := 1) hs rfl
  · exact cell_in (o := 10) (j := 2) hs rfl
  · exact cell_in (o := 10) (j := 3) hs rfl
  · exact cell_in (o := 10) (j := 4) hs rfl
  · exact (cell_out (by simp [VV.cs])).trans h15
  · exact (cell_out (by simp [VV.cs])).trans h16
  · exact (cell_out (by simp [VV.cs])).trans h17
theorem Lies.setw {W : World} {B : Nat} {d : DD} {n : Int} (h : Lies W B d) : Lies (W.setCells B 15 [.int .i64 n]) B { d with w := n } := by
  obtain ⟨f, h0, h1, h2, h3, h4, h5, h6, h7, h8, h9, h10, h11, h12, h13, h14, h15, h16, h17⟩ := h
  have hs : ∀ j, j < 1 → (W.cell? ⟨B, 15 + j, none⟩).isSome = true := by
    intro j hj
    match j, hj with
    | 0, _ => exact h15 ▸ rfl
    | j + 1, hj => exact absurd hj (by omega)
  refine ⟨fun j => (World.frozen?_setCells _ _ _ _ _).trans (f j), ?_, ?_, ?_, ?_, ?_, ?_, ?_, ?_, ?_, ?_, ?_, ?_, ?_, ?_, ?_, ?_, ?_, ?_⟩
  · exact (cell_out (by simp [VV.cs])).trans h0
  · exact (cell_out (by simp [VV.cs])).trans h1
  · exact (cell_out (by simp [VV.cs])).trans h2
  · exact (cell_out (by simp [VV.cs])).trans h3
  · exact (cell_out (by simp [VV.cs])).trans h4
  · exact (cell_out (by simp [VV.cs])).trans h5
  · exact (cell_out (by simp [VV.cs])).trans h6
  · exact (cell_out (by simp [VV.cs])).trans h7
  · exact (cell_out (by simp [VV.cs])).trans h8
  · exact (cell_out (by simp [VV.cs])).trans h9
  · exact (cell_out (by simp [VV.cs])).trans h10
  · exact (cell_out (by simp [VV.cs])).trans h11
  · exact (cell_out (by simp [VV.cs])).trans h12
  · exact (cell_out (by simp [VV.cs])).trans h13
  · exact (cell_out (by simp [VV.cs])).trans h14
  · exact cell_in (o := 15) (j := 0) hs rfl
  · exact (cell_out (by simp [VV.cs])).trans h16
  · exact (cell_out (by simp [VV.cs])).trans h17
theorem Lies.sete {W : World} {B : Nat} {d : DD} {n : Int} (h : Lies W B d) : Lies (W.setCells B 16 [.int .i64 n]) B { d with e := n } := by
  obtain ⟨f, h0, h1, h2, h3, h4, h5, h6, h7, h8, h9, h10, h11, h12, h13, h14, h15, h16, h17⟩ := h
  have hs : ∀ j, j < 1 → (W.cell? ⟨B, 16 + j, none⟩).isSome = true := by
    intro j hj
    match j, hj with
    | 0, _ => exact h16 ▸ rfl
    | j + 1, hj => exact absurd hj (by omega)
  refine ⟨fun j => (World.frozen?_setCells _ _ _ _ _).trans (f j), ?_, ?_, ?_, ?_, ?_, ?_, ?_, ?_, ?_, ?_, ?_, ?_, ?_, ?_, ?_, ?_, ?_, ?_⟩
  · exact (cell_out (by simp [VV.cs])).trans h0
  · exact (cell_out (by simp [VV.cs])).trans h1
  · exact (cell_out (by simp [VV.cs])).trans h2
  · exact (cell_out (by simp [VV.cs])).trans h3
  · exact (cell_out (by simp [VV.cs])).trans h4
  · exact (cell_out (by simp [VV.cs])).trans h5
  · exact (cell_out (by simp [VV.cs])).trans h6
  · exact (cell_out (by simp [VV.cs])).trans h7
  · exact (cell_out (by simp [VV.cs])).trans h8
  · exact (cell_out (by simp [VV.cs])).trans h9
  · exact (cell_out (by simp [VV.cs])).trans h10
  · exact (cell_out (by simp [VV.cs])).trans h11
  · exact (cell_out (by simp [VV.cs])).trans h12
  · exact (cell_out (by simp [VV.cs])).trans h13
  · exact (cell_out (by simp [VV.cs])).trans h14
  · exact (cell_out (by simp [VV.cs])).trans h15
  · exact cell_in (o := 16) (j := 0) hs rfl
  · exact (cell_out (by simp [VV.cs])).trans h17
theorem Lies.setc {W : World} {B : Nat} {d : DD} {n : Int} (h : Lies W B d) : Lies (W.setCells B 17 [.int .i64 n]) B { d with c := n } := by
  obtain ⟨f, h0, h1, h2, h3, h4, h5, h6, h7, h8, h9, h10, h11, h12, h13, h14, h15, h16, h17⟩ := h
  have hs : ∀ j, j < 1 → (W.cell? ⟨B, 17 + j, none⟩).isSome = true := by
    intro j hj
    match j, hj with
    | 0, _ => exact h17 ▸ rfl
    | j + 1, hj => exact absurd hj (by omega)
  refine ⟨fun j => (World.frozen?_setCells _ _ _ _ _).trans (f j), ?_, ?_, ?_, ?_, ?_, ?_, ?_, ?_, ?_, ?_, ?_, ?_, ?_, ?_, ?_, ?_, ?_, ?_⟩
  · exact (cell_out (by simp [VV.cs])).trans h0
  · exact (cell_out (by simp [VV.cs])).trans h1
  · exact (cell_out (by simp [VV.cs])).trans h2
  · exact (cell_out (by simp [VV.cs])).trans h3
  · exact (cell_out (by simp [VV.cs])).trans h4
  · exact (cell_out (by simp [VV.cs])).trans h5
  · exact (cell_out (by simp [VV.cs])).trans h6
  · exact (cell_out (by simp [VV.cs])).trans h7
  · exact (cell_out (by simp [VV.cs])).trans h8
  · exact (cell_out (by simp [VV.cs])).trans h9
  · exact (cell_out (by simp [VV.cs])).trans h10
  · exact (cell_out (by simp [VV.cs])).trans h11
  · exact (cell_out (by simp [VV.cs])).trans h12
  · exact (cell_out (by simp [VV.cs])).trans h13
  · exact (cell_out (by simp [VV.cs])).trans h14
  · exact (cell_out (by simp [VV.cs])).trans h15
  · exact (cell_out (by simp [VV.cs])).trans h16
  · exact cell_in (o := 17) (j := 0) hs rfl
theorem Lies.setstr {W : World} {B : Nat} {d : DD} {n : ByteArray} (h : Lies W B d) : Lies (W.setCells B 3 [.string n]) B { d with v := { d.v with s := n } } := by
  obtain ⟨f, h0, h1, h2, h3, h4, h5, h6, h7, h8, h9, h10, h11, h12, h13, h14, h15, h16, h17⟩ := h
  have hs : ∀ j, j < 1 → (W.cell? ⟨B, 3 + j, none⟩).isSome = true := by
    intro j hj
    match j, hj with
    | 0, _ => exact h3 ▸ rfl
    | j + 1, hj => exact absurd hj (by omega)
  refine ⟨fun j => (World.frozen?_setCells _ _ _ _ _).trans (f j), ?_, ?_, ?_, ?_, ?_, ?_, ?_, ?_, ?_, ?_, ?_, ?_, ?_, ?_, ?_, ?_, ?_, ?_⟩
  · exact (cell_out (by simp [VV.cs])).trans h0
  · exact (cell_out (by simp [VV.cs])).trans h1
  · exact (cell_out (by simp [VV.cs])).trans h2
  · exact cell_in (o := 3) (j := 0) hs rfl
  · exact (cell_out (by simp [VV.cs])).trans h4
  · exact (cell_out (by simp [VV.cs])).trans h5
  · exact (cell_out (by simp [VV.cs])).trans h6
  · exact (cell_out (by simp [VV.cs])).trans h7
  · exact (cell_out (by simp [VV.cs])).trans h8
  · exact (cell_out (by simp [VV.cs])).trans h9
  · exact (cell_out (by simp [VV.cs])).trans h10
  · exact (cell_out (by simp [VV.cs])).trans h11
  · exact (cell_out (by simp [VV.cs])).trans h12
  · exact (cell_out (by simp [VV.cs])).trans h13
  · exact (cell_out (by simp [VV.cs])).trans h14
  · exact (cell_out (by simp [VV.cs])).trans h15
  · exact (cell_out (by simp [VV.cs])).trans h16
  · exact (cell_out (by simp [VV.cs])).trans h17
theorem Lies.there {W : World} {B : Nat} {d : DD} (h : Lies W B d) : W.there B 0 18 := by
  obtain ⟨f, h0, h1, h2, h3, h4, h5, h6, h7, h8, h9, h10, h11, h12, h13, h14, h15, h16, h17⟩ := h
  intro j hj
  match j, hj with
  | 0, _ => exact ⟨h0 ▸ rfl, f _⟩
  | 1, _ => exact ⟨h1 ▸ rfl, f _⟩
  | 2, _ => exact ⟨h2 ▸ rfl, f _⟩
  | 3, _ => exact ⟨h3 ▸ rfl, f _⟩
  | 4, _ => exact ⟨h4 ▸ rfl, f _⟩
  | 5, _ => exact ⟨h5 ▸ rfl, f _⟩
  | 6, _ => exact ⟨h6 ▸ rfl, f _⟩
  | 7, _ => exact ⟨h7 ▸ rfl, f _⟩
  | 8, _ => exact ⟨h8 ▸ rfl, f _⟩
  | 9, _ => exact ⟨h9 ▸ rfl, f _⟩
  | 10, _ => exact ⟨h10 ▸ rfl, f _⟩
  | 11, _ => exact ⟨h11 ▸ rfl, f _⟩
  | 12, _ => exact ⟨h12 ▸ rfl, f _⟩
  | 13, _ => exact ⟨h13 ▸ rfl, f _⟩
  | 14, _ => exact ⟨h14 ▸ rfl, f _⟩
  | 15, _ => exact ⟨h15 ▸ rfl, f _⟩
  | 16, _ => exact ⟨h16 ▸ rfl, f _⟩
  | 17, _ => exact ⟨h17 ▸ rfl, f _⟩
  | j + 18, hj => exact absurd hj (by omega)
theorem store27 {ops : Array Oper} {rest : List Oper} {o : Oper} {a : Act} {w w0 : World} {Q : Exit → Act → World → Prop} {x y : Operand} {l : List PB} (i : Nat) {d : DD} {u : DD} (hw : Region.wanted o (yielded ops a.tmps) = true) (ho : o.op = .store 38 x y) (hL : Lie w0 w l) (hi : l[i]? = some (.D d))
    (hx : a.eval x = .pointer (some ⟨w0.heap.size + i, 0, none⟩)) (hy : a.eval y = u.agg) (h : ∀ X, Lie w0 X (l.set i (.D u)) → wpList Tryz.prog ops Q rest (a.put o.dst undef) X) : wpList Tryz.prog ops Q (o :: rest) a w := by
  refine BigFrame.wpList_want hw fun K hK => ?_
  have hc := hL.holds.at hi
  exact wp_store_mid 38 x y ho _ 0 u.cs.toArray hx hy (Lies.there hc) info38 (by simp [DD.cs, VV.cs, Value.oneCell']) (hK _ _ (h _ (hL.put hi fun hq => Lies.setD hq)))
theorem run_cell {W : World} {b j : Nat} {v c : Value} {m : Mode} (hc : W.cell? ⟨b, j, none⟩ = some c) (hf : W.frozen? ⟨b, j, none⟩ = false) : stored Tryz.prog W ⟨b, j, none⟩ v m = .ok () (W.setCells b j [v]) := by
  unfold stored
  rw [hc]
  simp [hf, World.setCells]
theorem store25w {ops : Array Oper} {rest : List Oper} {o : Oper} {a : Act} {w w0 : World} {Q : Exit → Act → World → Prop} {x y : Operand} {l : List PB} (i : Nat) {d : DD} {n : Int} (hw : Region.wanted o (yielded ops a.tmps) = true) (ho : o.op = .store 36 x y) (hL : Lie w0 w l) (hi : l[i]? = some (.D d))
    (hx : a.eval x = .pointer (some ⟨w0.heap.size + i, 15, none⟩)) (hy : a.eval y = .int .i64 n) (h : ∀ X, Lie w0 X (l.set i (.D { d with w := n })) → wpList Tryz.prog ops Q rest (a.put o.dst undef) X) : wpList Tryz.prog ops Q (o :: rest) a w := by
  refine BigFrame.wpList_want hw fun K hK => ?_
  have hc := hL.holds.at hi
  have hP := hK _ _ (h _ (hL.put hi fun hq => Lies.setw (n := n) hq))
  obtain ⟨f, h0, h1, h2, h3, h4, h5, h6, h7, h8, h9, h10, h11, h12, h13, h14, h15, h16, h17⟩ := hc
  have hs : ∀ m, stored Tryz.prog w ⟨w0.heap.size + i, 15, none⟩ (.int .i64 n) m = .ok () (w.setCells (w0.heap.size + i) 15 [.int .i64 n]) := fun m => run_cell h15 (f _)
  unfold Oper.wp execOp
  simp only [ho, hx, hy]
  simp only [go_sem] at hs
  simp [go_sem, Tryz.sizeOf36]
  simp [hs]
  exact hP
theorem store25e {ops : Array Oper} {rest : List Oper} {o : Oper} {a : Act} {w w0 : World} {Q : Exit → Act → World → Prop} {x y : Operand} {l : List PB} (i : Nat) {d : DD} {n : Int} (hw : Region.wanted o (yielded ops a.tmps) = true) (ho : o.op = .store 36 x y) (hL : Lie w0 w l) (hi : l[i]? = some (.D d))
    (hx : a.eval x = .pointer (some ⟨w0.heap.size + i, 16, none⟩)) (hy : a.eval y = .int .i64 n) (h : ∀ X, Lie w0 X (l.set i (.D { d with e := n })) → wpList Tryz.prog ops Q rest (a.put o.dst undef) X) : wpList Tryz.prog ops Q (o :: rest) a w := by
  refine BigFrame.wpList_want hw fun K hK => ?_
  have hc := hL.holds.at hi
  have hP := hK _ _ (h _ (hL.put hi fun hq => Lies.sete (n := n) hq))
  obtain ⟨f, h0, h1, h2, h3, h4, h5, h6, h7, h8, h9, h10, h11, h12, h13, h14, h15, h16, h17⟩ := hc
  have hs : ∀ m, stored Tryz.prog w ⟨w0.heap.size + i, 16, none⟩ (.int .i64 n) m = .ok () (w.setCells (w0.heap.size + i) 16 [.int .i64 n]) := fun m => run_cell h16 (f _)
  unfold Oper.wp execOp
  simp only [ho, hx, hy]
  simp only [go_sem] at hs
  simp [go_sem, Tryz.sizeOf36]
  simp [hs]
  exact hP
theorem store25c {ops : Array Oper} {rest : List Oper} {o : Oper} {a : Act} {w w0 : World} {Q : Exit → Act → World → Prop} {x y : Operand} {l : List PB} (i : Nat) {d : DD} {n : Int} (hw : Region.wanted o (yielded ops a.tmps) = true) (ho : o.op = .store 36 x y) (hL : Lie w0 w l) (hi : l[i]? = some (.D d))
    (hx : a.eval x = .pointer (some ⟨w0.heap.size + i, 17, none⟩)) (hy : a.eval y = .int .i64 n) (h : ∀ X, Lie w0 X (l.set i (.D { d with c := n })) → wpList Tryz.prog ops Q rest (a.put o.dst undef) X) : wpList Tryz.prog ops Q (o :: rest) a w := by
  refine BigFrame.wpList_want hw fun K hK => ?_
  have hc := hL.holds.at hi
  have hP := hK _ _ (h _ (hL.put hi fun hq => Lies.setc (n := n) hq))
  obtain ⟨f, h0, h1, h2, h3, h4, h5, h6, h7, h8, h9, h10, h11, h12, h13, h14, h15, h16, h17⟩ := hc
  have hs : ∀ m, stored Tryz.prog w ⟨w0.heap.size + i, 17, none⟩ (.int .i64 n) m = .ok () (w.setCells (w0.heap.size + i) 17 [.int .i64 n]) := fun m => run_cell h17 (f _)
  unfold Oper.wp execOp
  simp only [ho, hx, hy]
  simp only [go_sem] at hs
  simp [go_sem, Tryz.sizeOf36]
  simp [hs]
  exact hP
theorem store9 {ops : Array Oper} {rest : List Oper} {o : Oper} {a : Act} {w w0 : World} {Q : Exit → Act → World → Prop} {x y : Operand} {l : List PB} (i : Nat) {d : DD} {n : ByteArray} (hw : Region.wanted o (yielded ops a.tmps) = true) (ho : o.op = .store 9 x y) (hL : Lie w0 w l) (hi : l[i]? = some (.D d))
    (hx : a.eval x = .pointer (some ⟨w0.heap.size + i, 3, none⟩)) (hy : a.eval y = .string n) (h : ∀ X, Lie w0 X (l.set i (.D { d with v := { d.v with s := n } })) → wpList Tryz.prog ops Q rest (a.put o.dst undef) X) : wpList Tryz.prog ops Q (o :: rest) a w := by
  refine BigFrame.wpList_want hw fun K hK => ?_
  have hc := hL.holds.at hi
  have hP := hK _ _ (h _ (hL.put hi fun hq => Lies.setstr (n := n) hq))
  obtain ⟨f, h0, h1, h2, h3, h4, h5, h6, h7, h8, h9, h10, h11, h12, h13, h14, h15, h16, h17⟩ := hc
  have hs : ∀ m, stored Tryz.prog w ⟨w0.heap.size + i, 3, none⟩ (.string n) m = .ok () (w.setCells (w0.heap.size + i) 3 [.string n]) := fun m => run_cell h3 (f _)
  unfold Oper.wp execOp
  simp only [ho, hx, hy]
  simp only [go_sem] at hs
  simp [go_sem, Tryz.sizeOf9]
  simp [hs]
  exact hP
theorem ret27 {fn : Func} {R : Ending → World → Prop} {a : Act} {w : World} {b r : Nat} {d : DD} (hr : fn.results = #[.cell r 38]) (hdf : a.defers = [])
    (hx : a.tmps.getD r undef = .pointer (some ⟨b, 0, none⟩)) (hc : Lies w b d) (h : R (.returned (d.agg)) w) : bodyPost Tryz.prog fn R .ret a w := by
  obtain ⟨t, hu, hd⟩ := isrow27
  have hl := run_loadVar_mid (P := Tryz.prog) w b 0 38 _ t hc.range hu hd info38
  refine ⟨hdf, _, ?_, h⟩
  simp only [Array.getD_eq_getD_getElem?] at hx
  unfold results
  simp [hr, hx, hl, asAddr]
  try rfl
theorem ret27_2 {fn : Func} {R : Ending → World → Prop} {a : Act} {w : World} {b r : Nat} {d : DD} {t t2 : Nat} {v v2 : Value} (hr : fn.results = #[.cell r 38, .tmp t, .tmp t2]) (hdf : a.defers = [])
    (hx : a.tmps.getD r undef = .pointer (some ⟨b, 0, none⟩)) (hv : a.tmps.getD t undef = v) (hv2 : a.tmps.getD t2 undef = v2) (hc : Lies w b d) (h : R (.returned (.tuple #[d.agg, v, v2])) w) : bodyPost Tryz.prog fn R .ret a w := by
  obtain ⟨t, hu, hd⟩ := isrow27
  have hl := run_loadVar_mid (P := Tryz.prog) w b 0 38 _ t hc.range hu hd info38
  refine ⟨hdf, _, ?_, h⟩
  simp only [Array.getD_eq_getD_getElem?] at hx hv hv2
  unfold results
  simp [hr, hx, hl, asAddr, hv, hv2]
  try rfl
