import Derived.Test.YtcflglloopgieaaGreatDoorQw
import Derived.Test.YtcflglloopgieaaGreatDoorQj
import Derived.Test.YtcflglloopgieaaGreatDoorRa
import Derived.Deep.Slices
import Derived.SizedLaws

/-! Jd -/
namespace Go.Proofs.YtcflglloopgieaaGreatDoor
open Go Go.Proofs Go.Maps Go.RowKit FM
set_option linter.unusedSimpArgs false
set_option linter.unusedVariables false
set_option maxHeartbeats 1000000
section
variable {H : Type} {enc : TypeId × Value → H} {W : World} {base : Nat} {sp : Nat → Bool} {held : Bool} {m : Nat} {x : DataW H × List MemPlace}
set_option maxRecDepth 100000 in
theorem val_str {u : VV} (h : DataW.trod enc Tryz.prog W base sp held m 31 u.cs = some x) (hw : ∀ n ∈ x.1.weights Tryz.prog 31, n ≤ reachBytes) : SV u := by
  obtain ⟨xs, n, _, rfl, hl, hlen, hf⟩ := DataW.trod_struct Tryz.underlying31 h
  have h3 := hf 3 _ rfl
  simp [cellsOf9, VV.cs] at h3 hlen
  obtain ⟨y3, e3⟩ : ∃ y, xs[3]? = some y := ⟨_, List.getElem?_eq_getElem (by omega)⟩
  rw [e3] at h3
  obtain ⟨s, hs, hs1, hy⟩ := cell_string Tryz.underlying9 h3
  obtain rfl : u.s = s := by simpa using hs
  have hm := DataW.weights_mem_each (P := Tryz.prog) (ts := [3, 4, 29, 9, 3]) (ds := xs.map (·.1)) (j := 3) (t := 9) (d := y3.1) rfl (by rw [List.getElem?_map, e3]; rfl) u.s.size (by rw [hy]; simp [DataW.weights])
  have h9 := hw u.s.size (by simpa [DataW.weights, Tryz.underlying31] using hm)
  have := reachBytes_lt
  unfold SV
  omega
set_option maxRecDepth 100000 in
theorem key_str {k : KK} (h : DataW.trod enc Tryz.prog W base sp held m 56 k.cs = some x) (hw : ∀ n ∈ x.1.weights Tryz.prog 56, n ≤ reachBytes) : k.s.size ≤ 281474976710656 := by
  obtain ⟨xs, n, _, rfl, hl, hlen, hf⟩ := DataW.trod_struct Tryz.underlying56 h
  have h3 := hf 0 _ rfl
  simp [cellsOf9, KK.cs] at h3 hlen
  obtain ⟨y3, e3⟩ : ∃ y, xs[0]? = some y := ⟨_, List.getElem?_eq_getElem (by omega)⟩
  rw [e3] at h3
  obtain ⟨s, hs, hs1, hy⟩ := cell_string Tryz.underlying9 h3
  obtain rfl : k.s = s := by simpa using hs
  have hm := DataW.weights_mem_each (P := Tryz.prog) (ts := [9, 3]) (ds := xs.map (·.1)) (j := 0) (t := 9) (d := y3.1) rfl (by rw [List.getElem?_map, e3]; rfl) k.s.size (by rw [hy]; simp [DataW.weights])
  have h9 := hw k.s.size (by simpa [DataW.weights, Tryz.underlying56] using hm)
  have := reachBytes_lt
  omega
set_option maxRecDepth 100000 in
theorem desc_str {d : DD} (h : DataW.trod enc Tryz.prog W base sp held m 59 d.cs = some x) (hw : ∀ n ∈ x.1.weights Tryz.prog 59, n ≤ reachBytes) : SD d := by
  obtain ⟨xs, n, _, rfl, hl, hlen, hf⟩ := DataW.trod_struct Tryz.underlying59 h
  have h0 := hf 0 _ rfl
  have h1 := hf 1 _ rfl
  have h2 := hf 2 _ rfl
  simp [cellsOf24, DD.cs] at h0 h1 h2 hlen
  have g : ∀ j, j < 6 → ∃ y, xs[j]? = some y := fun j hj => ⟨_, List.getElem?_eq_getElem (by omega)⟩
  obtain ⟨y0, e0⟩ := g 0 (by omega)
  obtain ⟨y1, e1⟩ := g 1 (by omega)
  obtain ⟨y2, e2⟩ := g 2 (by omega)
  rw [e0] at h0
  rw [e1] at h1
  rw [e2] at h2
  have hj : ∀ (j : Nat) (y : DataW H × List MemPlace), xs[j]? = some y → j < 3 → ∀ q ∈ y.1.weights Tryz.prog 31, q ≤ reachBytes := fun j y hy hj q hq => hw q (by
    have ht : ([31, 31, 31, 57, 57, 57] : List TypeId)[j]? = some 31 := by
      rcases (by omega : j = 0 ∨ j = 1 ∨ j = 2) with rfl | rfl | rfl <;> rfl
    have hm := DataW.weights_mem_each (P := Tryz.prog) (ts := [31, 31, 31, 57, 57, 57]) (ds := xs.map (·.1)) (j := j) (t := 31) (d := y.1) ht (by rw [List.getElem?_map, hy]; rfl) q hq
    simpa [DataW.weights, Tryz.underlying59] using hm)
  exact ⟨val_str (u := d.v) h0 (hj 0 y0 e0 (by omega)), val_str (u := d.g) h1 (hj 1 y1 e1 (by omega)), val_str (u := d.s) h2 (hj 2 y2 e2 (by omega))⟩
set_option maxRecDepth 100000 in
theorem prop_str {p : PR} (h : DataW.trod enc Tryz.prog W base sp held m 61 p.cs = some x) (hw : ∀ n ∈ x.1.weights Tryz.prog 61, n ≤ reachBytes) : SP p := by
  obtain ⟨xs, n, _, rfl, hl, hlen, hf⟩ := DataW.trod_struct Tryz.underlying61 h
  have h0 := hf 0 _ rfl
  have h1 := hf 1 _ rfl
  simp [cellsOf41, cellsOf44, PR.cs, KK.cs, DD.cs] at h0 h1 hlen
  have g : ∀ j, j < 2 → ∃ y, xs[j]? = some y := fun j hj => ⟨_, List.getElem?_eq_getElem (by omega)⟩
  obtain ⟨y0, e0⟩ := g 0 (by omega)
  obtain ⟨y1, e1⟩ := g 1 (by omega)
  rw [e0] at h0
  rw [e1] at h1
  refine ⟨key_str (k := p.k) h0 (fun q hq => hw q ?_), desc_str (d := p.d) h1 (fun q hq => hw q ?_)⟩
  · have hm := DataW.weights_mem_each (P := Tryz.prog) (ts := [56, 59]) (ds := xs.map (·.1)) (j := 0) (t := 56) (d := y0.1) rfl (by rw [List.getElem?_map, e0]; rfl) q hq
    simpa [DataW.weights, Tryz.underlying61] using hm
  · have hm := DataW.weights_mem_each (P := Tryz.prog) (ts := [56, 59]) (ds := xs.map (·.1)) (j := 1) (t := 59) (d := y1.1) rfl (by rw [List.getElem?_map, e1]; rfl) q hq
    simpa [DataW.weights, Tryz.underlying61] using hm
end
section
variable {H : Type} {enc : TypeId × Value → H} {W : World} {m : Nat} {x : DataW H × List MemPlace}
theorem open_rowPU {cs : List Value} (h : DataW.trod enc Tryz.prog W 0 (fun _ => true) true m 32 cs = some x) (hw : ∀ n ∈ x.1.weights Tryz.prog 32, n ≤ reachBytes) :
    ∃ (A : Option Addr) (cap : Nat) (l : List PR), cs = [.slice A l.length cap] ∧ ReadsP W A l ∧ (A = none → cap = 0) ∧ l.length ≤ 733007751850 ∧ l.length ≤ cap ∧ ∀ p ∈ l, SP p := by
  rcases Go.Deep.open_slice Tryz.underlying32 h with ⟨hcs, hx⟩ | ⟨a, len, cap, mm, k, D, Pl, hcs, _, hl, hm, hme, hx, hel⟩
  · exact ⟨none, 0, [], hcs, fun j u hu => by simp at hu, fun _ => rfl, by simp, by simp, by simp⟩
  · have hme' : len ≤ mm := by
      simp at hme
      omega
    have hd : x.1 = .slice ((List.range len).map D) ((List.range (mm - len)).map fun j => D (len + j)) := congrArg Prod.fst hx
    have each : ∀ i, i < len → ∃ u : PR, (OkP u ∧ SP u) ∧ W.cells? 0 (a.add (i * 20)) 20 = some u.cs := by
      intro i hi
      obtain ⟨cs', h1, h2⟩ := hel i (by omega)
      obtain ⟨u, rfl, hu⟩ := cells_prop h2
      rw [cellsOf46] at h1
      exact ⟨u, ⟨hu, prop_str h2 (fun q hq => hw q (by
        have hm := weights_all (P := Tryz.prog) (e := 61) (l := (List.range len).map D) (d := D i) (List.mem_map.2 ⟨i, List.mem_range.2 hi, rfl⟩) q hq
        rw [hd]
        simp only [DataW.weights, Tryz.underlying32, List.mem_cons, List.mem_append]
        exact .inr (.inl hm)))⟩, h1⟩
    obtain ⟨l, hll, hlr⟩ := rows_of pcs_length (by omega) each
    refine ⟨some a, cap, l, by rw [hcs, hll], fun j p hp => ?_, (fun h => by cases h), ?_, by omega, fun p hp => ?_⟩
    · obtain ⟨h1, b, off, rfl, h3, h4⟩ := hlr j p hp
      exact ⟨h1.1, b, off, rfl, h3, h4⟩
    · rw [hx] at hw
      have h1 := hw ((((List.range len).map D).length + ((List.range (mm - len)).map fun j => D (len + j)).length) * Tryz.prog.bytesOf 61) (by simp [DataW.weights, Tryz.underlying32])
      rw [bytes46] at h1
      have h2 := reachBytes_lt
      simp at h1
      omega
    · obtain ⟨j, hj⟩ := List.getElem?_of_mem hp
      exact (hlr j p hj).1.2
set_option maxRecDepth 100000 in
theorem cells_shapeU {cs : List Value} (h : DataW.trod enc Tryz.prog W 0 (fun _ => true) true m 34 cs = some x) (hw : ∀ n ∈ x.1.weights Tryz.prog 34, n ≤ reachBytes) :
    ∃ e : CE, (e.s.p.x < 2 ^ 64 ∧ e.s.ps.length ≤ 733007751850 ∧ ReadsP W e.A e.s.ps ∧ (e.A = none → e.cap = 0) ∧ e.s.ps.length ≤ e.cap ∧ SS e.s) ∧ cs = e.cs := by
  obtain ⟨xs, n, _, rfl, hl, hlen, hf⟩ := DataW.trod_struct Tryz.underlying34 h
  rw [cellsOf28] at hl
  match cs, hl with
  | [c0, c1, c2, c3, c4, c5, c6, c7], _ =>
    have h0 := hf 0 _ rfl
    have h1 := hf 1 _ rfl
    have h2 := hf 2 _ rfl
    have h3 := hf 3 _ rfl
    simp [cellsOf3, cellsOf4, cellsOf24, cellsOf26] at h0 h1 h2 h3 hlen
    have g : ∀ j, j < 4 → ∃ y, xs[j]? = some y := fun j hj => ⟨_, List.getElem?_eq_getElem (by omega)⟩
    obtain ⟨y0, e0⟩ := g 0 (by omega)
    obtain ⟨y1, e1⟩ := g 1 (by omega)
    obtain ⟨y2, e2⟩ := g 2 (by omega)
    obtain ⟨y3, e3⟩ := g 3 (by omega)
    rw [e0] at h0
    rw [e1] at h1
    rw [e2] at h2
    rw [e3] at h3
    obtain ⟨kd, rfl, -, -⟩ := cell_int Tryz.underlying3 h0
    obtain ⟨v, hv, hx64, -⟩ := cells_value h1
    obtain ⟨b, rfl, -⟩ := cell_bool Tryz.underlying4 h2
    have hsv : SV v := val_str (u := v) (by rw [hv] at h1; exact h1) (fun q hq => hw q (by
      have hm := DataW.weights_mem_each (P := Tryz.prog) (ts := [3, 31, 4, 32]) (ds := xs.map (·.1)) (j := 1) (t := 31) (d := y1.1) rfl (by rw [List.getElem?_map, e1]; rfl) q hq
      simpa [DataW.weights, Tryz.underlying34] using hm))
    obtain ⟨A, cap, l, hcs, hR, hc0, hz, hlc, hsp⟩ := open_rowPU h3 (fun q hq => hw q (by
      have hm := DataW.weights_mem_each (P := Tryz.prog) (ts := [3, 31, 4, 32]) (ds := xs.map (·.1)) (j := 3) (t := 32) (d := y3.1) rfl (by rw [List.getElem?_map, e3]; rfl) q hq
      simpa [DataW.weights, Tryz.underlying34] using hm))
    refine ⟨⟨⟨kd, v, b, l⟩, A, cap⟩, ⟨hx64, hz, hR, hc0, hlc, hsv, hsp⟩, ?_⟩
    simp only [List.cons.injEq] at hv hcs
    obtain ⟨rfl, rfl, rfl, rfl, rfl, -⟩ := hv
    obtain ⟨rfl, -⟩ := hcs
    rfl
/-- A slice of shapes, with all that the copies ask. -/
def ReadsX (w : World) (A : Option Addr) (l : List SH) : Prop := ∀ j s, l[j]? = some s → SS s ∧ s.p.x < 2 ^ 64 ∧ s.ps.length ≤ 733007751850 ∧ ∃ b off SA cap, A = some ⟨b, off, none⟩ ∧ b < w.heap.size ∧ ReadsP w SA s.ps ∧ w.rangeAt b (off + j * 8) (s.cs SA cap) ∧ (SA = none → cap = 0) ∧ s.ps.length ≤ cap
theorem open_rowSU {v : Value} {d : DataW H} {p : List MemPlace} {A : Option Addr} {n cap : Nat} (hv : v = .slice A n cap) (h : DataW.Trod enc Tryz.prog W 0 (fun _ => true) true 22 v d p) (hw : ∀ n ∈ d.weights Tryz.prog 22, n ≤ reachBytes) : ∃ l : List SH, n = l.length ∧ ReadsX W A l := by
  subst hv
  obtain ⟨fuel, hf⟩ := h
  rcases Go.Deep.open_slice Tryz.underlying22 hf with ⟨hcs, hx⟩ | ⟨a, len, cap', mm, k, D, Pl, hcs, _, hl, hm, hme, hx, hel⟩
  · simp [Value.cells] at hcs
    obtain ⟨rfl, rfl, rfl⟩ := hcs
    exact ⟨[], rfl, fun j u hu => by simp at hu⟩
  · simp [Value.cells] at hcs
    obtain ⟨rfl, rfl, rfl⟩ := hcs
    have hme' : n ≤ mm := by
      simp at hme
      omega
    have hd : d = .slice ((List.range n).map D) ((List.range (mm - n)).map fun j => D (n + j)) := congrArg Prod.fst hx
    have each : ∀ i, i < n → ∃ u : CE, (u.s.p.x < 2 ^ 64 ∧ u.s.ps.length ≤ 733007751850 ∧ ReadsP W u.A u.s.ps ∧ (u.A = none → u.cap = 0) ∧ u.s.ps.length ≤ u.cap ∧ SS u.s) ∧ W.cells? 0 (a.add (i * 8)) 8 = some u.cs := by
      intro i hi
      obtain ⟨cs', h1, h2⟩ := hel i (by omega)
      obtain ⟨u, hu, rfl⟩ := cells_shapeU h2 (fun q hq => hw q (by
        have hm := weights_all (P := Tryz.prog) (e := 34) (l := (List.range n).map D) (d := D i) (List.mem_map.2 ⟨i, List.mem_range.2 hi, rfl⟩) q hq
        rw [hd]
        simp only [DataW.weights, Tryz.underlying22, List.mem_cons, List.mem_append]
        exact .inr (.inl hm)))
      rw [cellsOf28] at h1
      exact ⟨u, hu, h1⟩
    obtain ⟨l, hll, hlr⟩ := rows_of ce_length (by omega) each
    refine ⟨l.map CE.s, by simp [hll], fun j s hs => ?_⟩
    rw [List.getElem?_map] at hs
    obtain ⟨e, he, rfl⟩ := Option.map_eq_some_iff.1 hs
    obtain ⟨⟨h1, h2, h3, h4, h5, h6⟩, b, off, rfl, h7, h8⟩ := hlr j e he
    exact ⟨h6, h1, h2, b, off, e.A, e.cap, rfl, h7, h3, h8, h4, h5⟩
end
theorem ReadsX.s {w : World} {A : Option Addr} {l : List SH} (h : ReadsX w A l) : ReadsS w A l := fun j s hs => by
  obtain ⟨_, h1, h2, b, off, SA, cap, h3, h4, h5, h6, _⟩ := h j s hs
  exact ⟨h1, h2, b, off, SA, cap, h3, h4, h5, h6⟩
end Go.Proofs.YtcflglloopgieaaGreatDoor

/-! Iu -/
namespace Go.Proofs.YtcflglloopgieaaGreatDoor
open Go Go.Proofs Go.Maps Go.RowKit FM
set_option linter.unusedSimpArgs false
set_option linter.unusedVariables false
set_option maxHeartbeats 1000000
def wV (x : Nat) : VV := ⟨4, false, x, ⟨#[]⟩, 0⟩
def wD (x : Nat) : DD := ⟨wV x, zeroV, zeroV, 1, 1, 1⟩
def wN : VV := ⟨2, false, 0, ⟨#[]⟩, 0⟩
def wK : KK := ⟨⟨#[97]⟩, 0⟩
def wP (x : Nat) : PR := ⟨wK, wD x⟩
def wS (x : Nat) : SH := ⟨1, wN, false, [wP x]⟩
def x1 : Nat := 4607182418800017408
def x2 : Nat := 4611686018427387904
theorem rb12 : rbV (coA [wS x1] [wS x2] 0) 0 = false ∧ rbV (coA [wS x1] [wS x2] 0) 1 = false ∧ rbV (coA [wS x1] [wS x2] 0) 2 = false ∧ rbV (coA [wS x1] [wS x2] 0) 3 = false ∧ rbV (coA [wS x1] [wS x2] 0) 4 = false ∧ rbV (coA [wS x1] [wS x2] 0) 5 = true := ⟨by kernel_rfl, by kernel_rfl, by kernel_rfl, by kernel_rfl, by kernel_rfl, by kernel_rfl⟩
theorem rb11 : rbV (coA [wS x1] [wS x1] 0) 0 = false ∧ rbV (coA [wS x1] [wS x1] 0) 1 = false ∧ rbV (coA [wS x1] [wS x1] 0) 2 = false ∧ rbV (coA [wS x1] [wS x1] 0) 3 = false ∧ rbV (coA [wS x1] [wS x1] 0) 4 = false ∧ rbV (coA [wS x1] [wS x1] 0) 5 = false := ⟨by kernel_rfl, by kernel_rfl, by kernel_rfl, by kernel_rfl, by kernel_rfl, by kernel_rfl⟩
theorem br12 {o r : Int} (h : BrP [wS x1] [wS x2] o r) : o = 1 ∧ r = 6 := by
  obtain ⟨h0, h1, h2, h3, h4, h5⟩ := rb12
  rcases h with ⟨_, _, h⟩ | ⟨i, j, hi, hj, rfl, rfl, h, hn, _⟩
  · have := h 0 (by simp) 5 (by omega)
    rw [h5] at this
    cases this
  · obtain rfl : i = 0 := by simp at hi; omega
    have : j = 0 ∨ j = 1 ∨ j = 2 ∨ j = 3 ∨ j = 4 ∨ j = 5 := by omega
    rcases this with rfl | rfl | rfl | rfl | rfl | rfl
    · rw [h0] at h; cases h
    · rw [h1] at h; cases h
    · rw [h2] at h; cases h
    · rw [h3] at h; cases h
    · rw [h4] at h; cases h
    · exact ⟨rfl, rfl⟩
theorem br11 {o r : Int} (h : BrP [wS x1] [wS x1] o r) : o = 0 ∧ r = 0 := by
  obtain ⟨h0, h1, h2, h3, h4, h5⟩ := rb11
  rcases h with ⟨rfl, rfl, h⟩ | ⟨i, j, hi, hj, rfl, rfl, h, hn, _⟩
  · exact ⟨rfl, rfl⟩
  · obtain rfl : i = 0 := by simp at hi; omega
    have : j = 0 ∨ j = 1 ∨ j = 2 ∨ j = 3 ∨ j = 4 ∨ j = 5 := by omega
    rcases this with rfl | rfl | rfl | rfl | rfl | rfl
    · rw [h0] at h; cases h
    · rw [h1] at h; cases h
    · rw [h2] at h; cases h
    · rw [h3] at h; cases h
    · rw [h4] at h; cases h
    · rw [h5] at h; cases h
theorem fr1 : frV (wS x1) = true := by kernel_rfl
theorem db12 : (dblA [wS x1] || dblA [wS x2]) = false := by kernel_rfl
theorem df12 : diffT [wS x1] [wS x2] 1 = [putL 1 (wP x2)] := by kernel_rfl
theorem readsW {X : World} {B P : Nat} {x : Nat} (hx : x < 2 ^ 64) (hB : Holds X B ((wS x).cs (some ⟨P, 0, none⟩) 1)) (hP : Holds X P (wP x).cs) : ReadsU X (some ⟨B, 0, none⟩) [wS x] := fun j s hs => by
  match j, hs with
  | 0, hs =>
    obtain rfl : wS x = s := by simpa using hs
    have sv : ∀ v : VV, v.s = ⟨#[]⟩ → SV v := fun v e => by unfold SV; rw [e]; decide
    have sp : SP (wP x) := ⟨by show (⟨#[97]⟩ : ByteArray).size ≤ _; decide, sv _ rfl, sv _ rfl, sv _ rfl⟩
    refine ⟨⟨sv _ rfl, fun p hp => ?_⟩, by show (0 : Nat) < 2 ^ 64; decide, by show 1 ≤ 400; decide, B, 0, some ⟨P, 0, none⟩, 1, rfl, hB.lt (Nat.succ_pos _), fun j p hp => ?_, ?_, by show 1 ≤ 1; decide⟩
    · obtain rfl : p = wP x := by simpa [wS] using hp
      exact sp
    · match j, hp with
      | 0, hp =>
        obtain rfl : wP x = p := by simpa [wS] using hp
        refine ⟨⟨⟨hx, by show (0 : Nat) < 2 ^ 64; decide, by show (0 : Nat) < 2 ^ 64; decide⟩, by show (⟨#[97]⟩ : ByteArray).size ≤ maxLen; unfold maxLen; decide, by show (Lit.int IntKind.i64 0).wf = true; decide⟩, P, 0, rfl, hP.lt (Nat.succ_pos _), ?_⟩
        simpa using hP.2
      | j + 1, hp => simp [wS] at hp
    · simpa using hB.2
  | j + 1, hs => simp at hs
theorem ex_wV {o : Oper} {a : Act} {w : World} {y0 y2 : Operand} (x : Nat) (ho : o.op = .build 31 #[(0, y0), (2, y2)]) (h0 : a.eval y0 = .int .i64 4) (h2 : a.eval y2 = .float .f64 x) : (execOp a.eval o).run Tryz.prog w = .ok (.value (.agg ((wV x).cs).toArray)) w := by
  have e : (Instr.build 31 #[(0, .int .i64 4), (2, .float .f64 x)]).run Tryz.prog w = .ok (.agg ((wV x).cs).toArray) w := by kernel_rfl
  unfold execOp
  simp only [ho, List.map_toArray, List.map_cons, List.map_nil, h0, h2]
  simp [e]
theorem ex_wD {o : Oper} {a : Act} {w : World} {y0 y3 y4 y5 : Operand} (x : Nat) (ho : o.op = .build 59 #[(0, y0), (3, y3), (4, y4), (5, y5)]) (h0 : a.eval y0 = .agg (wV x).cs.toArray) (h3 : a.eval y3 = .int .i64 1) (h4 : a.eval y4 = .int .i64 1) (h5 : a.eval y5 = .int .i64 1) : (execOp a.eval o).run Tryz.prog w = .ok (.value (.agg ((wD x).cs).toArray)) w := by
  have e : (Instr.build 59 #[(0, .agg (wV x).cs.toArray), (3, .int .i64 1), (4, .int .i64 1), (5, .int .i64 1)]).run Tryz.prog w = .ok (.agg ((wD x).cs).toArray) w := by kernel_rfl
  unfold execOp
  simp only [ho, List.map_toArray, List.map_cons, List.map_nil, h0, h3, h4, h5]
  simp [e]
theorem ex_wN {o : Oper} {a : Act} {w : World} {y0 : Operand}  (ho : o.op = .build 31 #[(0, y0)]) (h0 : a.eval y0 = .int .i64 2) : (execOp a.eval o).run Tryz.prog w = .ok (.value (.agg (wN.cs).toArray)) w := by
  have e : (Instr.build 31 #[(0, .int .i64 2)]).run Tryz.prog w = .ok (.agg (wN.cs).toArray) w := by kernel_rfl
  unfold execOp
  simp only [ho, List.map_toArray, List.map_cons, List.map_nil, h0]
  simp [e]
theorem ex_wK {o : Oper} {a : Act} {w : World} {y0 : Operand}  (ho : o.op = .build 56 #[(0, y0)]) (h0 : a.eval y0 = .string ⟨#[97]⟩) : (execOp a.eval o).run Tryz.prog w = .ok (.value (.agg (wK.cs).toArray)) w := by
  have e : (Instr.build 56 #[(0, .string ⟨#[97]⟩)]).run Tryz.prog w = .ok (.agg (wK.cs).toArray) w := by kernel_rfl
  unfold execOp
  simp only [ho, List.map_toArray, List.map_cons, List.map_nil, h0]
  simp [e]
theorem ex_wP {o : Oper} {a : Act} {w : World} {y0 y1 : Operand} (x : Nat) (ho : o.op = .build 61 #[(0, y0), (1, y1)]) (h0 : a.eval y0 = .agg wK.cs.toArray) (h1 : a.eval y1 = .agg (wD x).cs.toArray) : (execOp a.eval o).run Tryz.prog w = .ok (.value (.agg ((wP x).cs).toArray)) w := by
  have e : (Instr.build 61 #[(0, .agg wK.cs.toArray), (1, .agg (wD x).cs.toArray)]).run Tryz.prog w = .ok (.agg ((wP x).cs).toArray) w := by kernel_rfl
  unfold execOp
  simp only [ho, List.map_toArray, List.map_cons, List.map_nil, h0, h1]
  simp [e]
theorem ex_wS {o : Oper} {a : Act} {w : World} {y0 y1 y3 : Operand} (x P : Nat) (ho : o.op = .build 34 #[(0, y0), (1, y1), (3, y3)]) (h0 : a.eval y0 = .int .i64 1) (h1 : a.eval y1 = .agg wN.cs.toArray) (h3 : a.eval y3 = .slice (some ⟨P, 0, none⟩) 1 1) : (execOp a.eval o).run Tryz.prog w = .ok (.value (.agg ((wS x).cs (some ⟨P, 0, none⟩) 1).toArray)) w := by
  have e : (Instr.build 34 #[(0, .int .i64 1), (1, .agg wN.cs.toArray), (3, .slice (some ⟨P, 0, none⟩) 1 1)]).run Tryz.prog w = .ok (.agg ((wS x).cs (some ⟨P, 0, none⟩) 1).toArray) w := by kernel_rfl
  unfold execOp
  simp only [ho, List.map_toArray, List.map_cons, List.map_nil, h0, h1, h3]
  simp [e]
theorem szF : (Tryz.prog.info? 29).map (·.size) = some 1 := by kernel_rfl
set_option maxHeartbeats 2000000 in
set_option maxRecDepth 100000 in
theorem works_any (w : World) (hT : Lib.Utf8Tabs 1 2 w) : Calls Tryz.prog 15 #[] w fun e w' => e = .returned (.bool true) ∧ Below w.heap.size w w' := by
  have LL := hide (Hq.nil w [])
  have HT := hide hT
  clear hT
  go_enter Tryz.func15, Tryz.ntmps15
  go_wp2_with (first | go_skip | ((with_reducible show wpList _ _ _ _ _ _); first | ((refine rd (by rfl) (ex_wV x1 rfl rfl rfl) ?_); simp only [Act.put, List.setIfInBounds_toArray, List.set_cons_succ, List.set_cons_zero]) | ((refine rd (by rfl) (ex_wD x1 rfl rfl rfl rfl rfl) ?_); simp only [Act.put, List.setIfInBounds_toArray, List.set_cons_succ, List.set_cons_zero]) | ((refine alG 59 (zeroD.cs) (by rfl) rfl (fun w => by kernel_rfl) (Nat.succ_pos _) (show Hq w _ [] [] from unhide LL) ?_); intro X1 B1 hE1 L1 hb1; have hB1 := hide (Nat.le_trans (unhide LL).fr.size (Nat.le_of_eq hE1.symm)); replace LL := hide L1; clear L1 hb1 hE1; simp only [Act.put, List.setIfInBounds_toArray, List.set_cons_succ, List.set_cons_zero]) | ((refine st (vs := (wD x1).cs) 0 59 (by rfl) rfl rfl rfl rfl (dcs_one _) szD (unhide LL) rfl (by simp [DD.cs, zeroD]) (Or.inr (unhide hB1)) ?_); intro X2 L2 hf2 hs2; replace LL := hide L2; clear L2 hf2 hs2; simp only [Act.put, List.setIfInBounds_toArray, List.set_cons_succ, List.set_cons_zero]) | ((refine rd (by rfl) (ex_loadN (vs := (wD x1).cs) 59 18 rwD szD rfl rfl ((unhide LL).get 0 rfl) rfl rfl) ?_); simp only [Act.put, List.setIfInBounds_toArray, List.set_cons_succ, List.set_cons_zero]) | ((refine alG 59 (zeroD.cs) (by rfl) rfl (fun w => by kernel_rfl) (Nat.succ_pos _) (unhide LL) ?_); intro X3 B3 hE3 L3 hb3; have hB3 := hide (Nat.le_trans (unhide LL).fr.size (Nat.le_of_eq hE3.symm)); replace LL := hide L3; clear L3 hb3 hE3; simp only [Act.put, List.setIfInBounds_toArray, List.set_cons_succ, List.set_cons_zero]) | ((refine st (vs := (wD x1).cs) 1 59 (by rfl) rfl rfl rfl rfl (dcs_one _) szD (unhide LL) rfl (by simp [DD.cs, zeroD]) (Or.inr (unhide hB3)) ?_); intro X4 L4 hf4 hs4; replace LL := hide L4; clear L4 hf4 hs4; simp only [Act.put, List.setIfInBounds_toArray, List.set_cons_succ, List.set_cons_zero]) | ((refine st (vs := [.float .f64 x2]) 1 29 (by rfl) rfl rfl rfl rfl (by simp [Value.oneCell']) szF (unhide LL) rfl (by simp [DD.cs, cput, wD]) (Or.inr (unhide hB3)) ?_); intro X5 L5 hf5 hs5; replace LL := hide L5; clear L5 hf5 hs5; simp only [Act.put, List.setIfInBounds_toArray, List.set_cons_succ, List.set_cons_zero]) | ((refine rd (by rfl) (ex_wN rfl rfl) ?_); simp only [Act.put, List.setIfInBounds_toArray, List.set_cons_succ, List.set_cons_zero]) | ((refine rd (by rfl) (ex_wK rfl rfl) ?_); simp only [Act.put, List.setIfInBounds_toArray, List.set_cons_succ, List.set_cons_zero]) | ((refine rd (by rfl) (ex_wP x1 rfl rfl rfl) ?_); simp only [Act.put, List.setIfInBounds_toArray, List.set_cons_succ, List.set_cons_zero]) | ((refine build_any (t := 32) (e := 61) (cs := (wP x1).cs) (by rfl) rfl rfl Tryz.underlying32 inf46 (by decide) rfl rfl (by decide) (unhide LL) ?_); intro X6 B6 hE6 L6 hb6; replace LL := hide L6; clear L6 hb6 hE6; simp only [Act.put, List.setIfInBounds_toArray, List.set_cons_succ, List.set_cons_zero]) | ((refine rd (by rfl) (ex_wS x1 B6 rfl rfl rfl rfl) ?_); simp only [Act.put, List.setIfInBounds_toArray, List.set_cons_succ, List.set_cons_zero]) | ((refine build_any (t := 22) (e := 34) (cs := (wS x1).cs (some ⟨B6, 0, none⟩) 1) (by rfl) rfl rfl Tryz.underlying22 inf28 (by decide) rfl rfl (by decide) (unhide LL) ?_); intro X7 B7 hE7 L7 hb7; replace LL := hide L7; clear L7 hb7 hE7; simp only [Act.put, List.setIfInBounds_toArray, List.set_cons_succ, List.set_cons_zero]) | ((refine rd (by rfl) (ex_loadN (vs := (wD x2).cs) 59 18 rwD szD rfl rfl ((unhide LL).get 1 rfl) rfl rfl) ?_); simp only [Act.put, List.setIfInBounds_toArray, List.set_cons_succ, List.set_cons_zero]) | ((refine rd (by rfl) (ex_wP x2 rfl rfl rfl) ?_); simp only [Act.put, List.setIfInBounds_toArray, List.set_cons_succ, List.set_cons_zero]) | ((refine build_any (t := 32) (e := 61) (cs := (wP x2).cs) (by rfl) rfl rfl Tryz.underlying32 inf46 (by decide) rfl rfl (by decide) (unhide LL) ?_); intro X8 B8 hE8 L8 hb8; replace LL := hide L8; clear L8 hb8 hE8; simp only [Act.put, List.setIfInBounds_toArray, List.set_cons_succ, List.set_cons_zero]) | ((refine rd (by rfl) (ex_wS x2 B8 rfl rfl rfl rfl) ?_); simp only [Act.put, List.setIfInBounds_toArray, List.set_cons_succ, List.set_cons_zero]) | ((refine build_any (t := 22) (e := 34) (cs := (wS x2).cs (some ⟨B8, 0, none⟩) 1) (by rfl) rfl rfl Tryz.underlying22 inf28 (by decide) rfl rfl (by decide) (unhide LL) ?_); intro X9 B9 hE9 L9 hb9; replace LL := hide L9; clear L9 hb9 hE9; simp only [Act.put, List.setIfInBounds_toArray, List.set_cons_succ, List.set_cons_zero])))
  have HR1 := hide (readsW (x := x1) (by decide) ((unhide LL).get 3 rfl) ((unhide LL).get 2 rfl))
  have HR2 := hide (readsW (x := x2) (by decide) ((unhide LL).get 5 rfl) ((unhide LL).get 4 rfl))
  have HT2 := hide (tabs_below (unhide HT) (unhide LL).fr.below)
  have LB := hide (unhide LL).fr.below
  clear LL HT hB1 hB3
  have hbk := broken_any (some ⟨B7, 0, none⟩) (some ⟨B9, 0, none⟩) 1 1 [wS x1] [wS x2] _ (unhide HR1).s (unhide HR2).s (by decide) (by decide) (unhide HT2)
  refine hbk.mono ?_
  clear hbk
  rintro e Y1 ⟨o, r, rfl, hbr, hY1⟩
  obtain ⟨rfl, rfl⟩ := br12 hbr
  have f1 := Fr.of_below hY1 []
  replace HR1 := hide ((unhide HR1).fr f1)
  replace HR2 := hide ((unhide HR2).fr f1)
  replace HT2 := hide (tabs_below (unhide HT2) hY1)
  replace LB := hide ((unhide LB).trans (hY1.mono (unhide LB).size))
  clear hY1 hbr f1
  go_wp2_with fail
  have hbk := broken_any (some ⟨B7, 0, none⟩) (some ⟨B7, 0, none⟩) 1 1 [wS x1] [wS x1] _ (unhide HR1).s (unhide HR1).s (by decide) (by decide) (unhide HT2)
  refine hbk.mono ?_
  clear hbk
  rintro e Y2 ⟨o, r, rfl, hbr, hY1⟩
  obtain ⟨rfl, rfl⟩ := br11 hbr
  have f1 := Fr.of_below hY1 []
  replace HR1 := hide ((unhide HR1).fr f1)
  replace HR2 := hide ((unhide HR2).fr f1)
  replace HT2 := hide (tabs_below (unhide HT2) hY1)
  replace LB := hide ((unhide LB).trans (hY1.mono (unhide LB).size))
  clear hY1 hbr f1
  go_wp2_with fail
  have hbk := diff_any (some ⟨B7, 0, none⟩) (some ⟨B9, 0, none⟩) 1 1 [wS x1] [wS x2] _ (unhide HR1) (unhide HR2) (by decide) (by decide) (unhide HT2)
  refine hbk.mono ?_
  clear hbk
  rintro e Y3 ⟨lv, er, rr, rfl, hown, hY1, hdf⟩
  obtain ⟨rfl, rfl⟩ : er = 0 ∧ rr = [putL 1 (wP x2)] := by
    rcases hdf with ⟨h, _⟩ | ⟨_, h, _⟩ | ⟨_, _, h1, h2⟩
    · simp at h
    · rw [db12] at h; cases h
    · exact ⟨h1, h2.trans df12⟩
  have f1 := Fr.of_below hY1 []
  replace HR1 := hide ((unhide HR1).fr f1)
  obtain ⟨g, gc, rfl, _, hgl, hgr⟩ := own_row (f := DL.cs) (k := 29) (fun _ => rfl) hown rfl 0 (by decide)
  have HG : Hid (∀ X, Fr Y3 X [] → X.cell? ⟨g, 0 + 0 * 29 + 1, none⟩ = some (.int .i64 6)) := hide (fun X hX => rangeAt_fr hgr hgl hX 1 _ rfl)
  replace LB := hide ((unhide LB).trans (hY1.mono (unhide LB).size))
  clear hY1 hdf f1 HR2 HT2 hown hgr hgl
  obtain ⟨_, _, _, b7, off7, SA, sc, hA7, hb7, hrp7, hrg7, _⟩ := (unhide HR1) 0 (wS x1) rfl
  obtain ⟨rfl, rfl⟩ : b7 = B7 ∧ off7 = 0 := by simpa using hA7.symm
  have HLD : Hid (Y3.rangeAt b7 (0 + 0 * 8) ((wS x1).cs SA sc)) := hide hrg7
  have HRP := hide hrp7
  clear hA7 hb7 hrg7 hrp7 HR1
  go_wp2_with (first | go_skip | ((with_reducible show wpList _ _ _ _ _ _); first | ((refine rd (by rfl) (ex_indexG 22 8 0 unSs idSs rfl rfl rfl (by decide)) ?_); simp only [Act.put, List.setIfInBounds_toArray, List.set_cons_succ, List.set_cons_zero]) | ((refine rd (by rfl) (ex_loadR (vs := (wS x1).cs SA sc) 34 8 rwS szS rfl rfl (unhide HLD) rfl) ?_); simp only [Act.put, List.setIfInBounds_toArray, List.set_cons_succ, List.set_cons_zero])))
  have hfz := frozen_any (wS x1) SA sc _ (unhide HRP) (by decide)
  rw [fr1, sagg] at hfz
  refine hfz.mono ?_
  clear hfz
  rintro e Y4 ⟨rfl, hY4⟩
  have f4 := Fr.of_below hY4 []
  replace LB := hide ((unhide LB).trans (hY4.mono (unhide LB).size))
  clear hY4
  go_wp2_with fail
  refine (num11 _ _).mono ?_
  rintro _ _ ⟨rfl, rfl⟩
  go_wp2_with (first | go_skip | ((with_reducible show wpList _ _ _ _ _ _); first | ((refine rd (by rfl) (ex_lenG 36 65 Tryz.underlying36 rfl rfl) ?_); simp only [Act.put, List.setIfInBounds_toArray, List.set_cons_succ, List.set_cons_zero]) | ((refine rd (by rfl) (ex_indexG 36 29 0 unLs idLs rfl rfl rfl (by decide)) ?_); simp only [Act.put, List.setIfInBounds_toArray, List.set_cons_succ, List.set_cons_zero]) | ((refine rd (by rfl) (ex_loadC 3 Tryz.isAgg3 rfl rfl (unhide HG _ f4)) ?_); simp only [Act.put, List.setIfInBounds_toArray, List.set_cons_succ, List.set_cons_zero])))
  go_ret
  exact ⟨rfl, unhide LB⟩
end Go.Proofs.YtcflglloopgieaaGreatDoor
