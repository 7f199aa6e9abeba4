import Derived.Test.YtdlbciiekghkaaaDoorSi
import Derived.Test.YtdlbciiekghkaaaDoorTa
import Derived.Laws.AppendOwnNone
import Derived.Deep.RegionHeld3
namespace Go.Proofs.YtdlbciiekghkaaaDoor
open Go Go.Proofs Go.Shelf Go.RowKit Go.Lib Go.Sort FM
attribute [local go_sem] bits_run run_store_float
def cells5 (v : VV) : List Value := [.int .i64 v.k, .bool v.b, .float .f64 v.x, .string v.s, .int .i64 v.i]
def flat (l : List VV) : List Value := l.flatMap cells5
theorem flat_nil : flat [] = [] := rfl
theorem flat_cons (v : VV) (l : List VV) : flat (v :: l) = cells5 v ++ flat l := rfl
theorem flat_append (l m : List VV) : flat (l ++ m) = flat l ++ flat m := by unfold flat; rw [List.flatMap_append]
theorem flat_one (v : VV) : flat [v] = cells5 v := by simp [flat]
theorem flat_length : ∀ l : List VV, (flat l).length = l.length * 5
  | [] => rfl
  | v :: l => by rw [flat_cons, List.length_append, flat_length l, List.length_cons]; simp [cells5]; omega
theorem flat_get : ∀ (l : List VV) (j t : Nat), j < l.length → t < 5 → (flat l)[j * 5 + t]? = (cells5 l[j]!)[t]?
  | [], j, t, hj, _ => by cases hj
  | v :: l, 0, t, _, ht => by
    rw [flat_cons, List.getElem?_append_left (by simp [cells5]; omega)]
    simp
  | v :: l, j + 1, t, hj, ht => by
    rw [flat_cons, List.getElem?_append_right (by simp [cells5]; omega)]
    have e : (j + 1) * 5 + t - (cells5 v).length = j * 5 + t := by simp [cells5]; omega
    rw [e, flat_get l j t (by simpa using hj) ht]
    simp
theorem flat_one' : ∀ (l : List VV), ∀ u ∈ flat l, u.oneCell' = true
  | [], u, hu => by cases hu
  | v :: l, u, hu => by
    rw [flat_cons, List.mem_append] at hu
    rcases hu with hu | hu
    · simp [cells5] at hu
      rcases hu with rfl | rfl | rfl | rfl | rfl <;> rfl
    · exact flat_one' l u hu
theorem rows5_iff (w : World) (b off : Nat) (l : List VV) : Rows5 w b off l ↔ ∀ j u, (flat l)[j]? = some u → w.cell? ⟨b, off + j, none⟩ = some u := by
  constructor
  · intro h j u hu
    have hlt : j < (flat l).length := (List.getElem?_eq_some_iff.1 hu).1
    rw [flat_length] at hlt
    have hd : j = j / 5 * 5 + j % 5 := by omega
    have hm : j % 5 < 5 := Nat.mod_lt _ (by omega)
    obtain ⟨c0, c1, c2, c3, c4⟩ := h (j / 5) (by omega)
    rw [hd, flat_get l (j / 5) (j % 5) (by omega) hm] at hu
    rw [hd]
    generalize j / 5 = q at *
    generalize j % 5 = t at *
    have ht : t = 0 ∨ t = 1 ∨ t = 2 ∨ t = 3 ∨ t = 4 := by omega
    simp only [Nat.add_assoc] at *
    rcases ht with rfl | rfl | rfl | rfl | rfl
    · exact c0.trans hu
    · exact c1.trans hu
    · exact c2.trans hu
    · exact c3.trans hu
    · exact c4.trans hu
  · intro h j hj
    have g : ∀ t u, t < 5 → (cells5 l[j]!)[t]? = some u → w.cell? ⟨b, off + (j * 5 + t), none⟩ = some u := fun t u ht hu => h _ u (by rw [flat_get l j t hj ht]; exact hu)
    simp only [Nat.add_assoc]
    exact ⟨g 0 _ (by omega) rfl, g 1 _ (by omega) rfl, g 2 _ (by omega) rfl, g 3 _ (by omega) rfl, g 4 _ (by omega) rfl⟩
/-- v is a slice whose elements are the values l. -/
def ReadsV (w : World) (v : Value) (l : List VV) : Prop :=
  (∃ A c, v = .slice A 0 c ∧ l = []) ∨ ∃ b off cap, v = .slice (some ⟨b, off, none⟩) l.length cap ∧ b < w.heap.size ∧ Rows5 w b off l
theorem Rows5.keep {w w' : World} {b off : Nat} {l : List VV} (h : Rows5 w b off l) (he : w'.heap[b]? = w.heap[b]?) : Rows5 w' b off l := by
  intro j hj
  have hc : ∀ o, w'.cell? ⟨b, o, none⟩ = w.cell? ⟨b, o, none⟩ := fun o => World.cell?_of_block he
  simp only [hc]
  exact h j hj
theorem ReadsV.same {w w' : World} {v : Value} {l : List VV} (h : ReadsV w v l) (hb : Below w.heap.size w w') : ReadsV w' v l := by
  rcases h with h | ⟨b, off, cap, rfl, hlt, hc⟩
  · exact .inl h
  · exact .inr ⟨b, off, cap, rfl, Nat.lt_of_lt_of_le hlt hb.size, hc.keep (hb.block b hlt)⟩
/-- A row of the call's own that reads as values. -/
theorem owns_rows {w : World} {base g cap : Nat} {l : List VV} (h : w.ownsRow base 24 5 (.slice (some ⟨g, 0, none⟩) l.length cap) l.length (flat l)) : Rows5 w g 0 l ∧ base ≤ g ∧ l.length ≤ cap ∧ g < w.heap.size := by
  rcases h.2 with ⟨h, _⟩ | ⟨g', c, cur, e, h1, h2, h3, _, h5, h6⟩
  · cases h
  · cases e
    refine ⟨(rows5_iff _ _ _ _).2 ?_, h1, h3, (Array.getElem?_eq_some_iff.1 h2).1⟩
    intro j u hu
    rw [← h6] at hu
    have hlt : j < l.length * 5 := by
      have := (List.getElem?_eq_some_iff.1 hu).1
      simp at this
      omega
    rw [List.getElem?_take_of_lt hlt] at hu
    simp [go_sem, World.cell?, h2]
    simpa using hu
theorem owns_reads {w : World} {base : Nat} {v : Value} {l : List VV} (h : w.ownsRow base 24 5 v l.length (flat l)) : ReadsV w v l := by
  rcases h.2 with ⟨rfl, h0⟩ | ⟨g, c, cur, rfl, _⟩
  · exact .inl ⟨none, 0, rfl, List.length_eq_zero_iff.1 h0⟩
  · obtain ⟨h1, h2, h3, h4⟩ := owns_rows h
    exact .inr ⟨g, 0, c, rfl, h4, h1⟩
theorem below_grown {n : Nat} {w w1 w2 : World} {ob : Option Nat} (hB : Below n w w1) (hs : n ≤ w.heap.size) (hg : w1.grownBy w2 ob) (ho : ∀ g, ob = some g → n ≤ g) : Below n w w2 :=
  ⟨hg.os.trans hB.os, hg.tape.trans hB.tape, hg.output.trans hB.output, Nat.le_trans hB.size hg.size, fun k hk => by
    rw [hg.block k (by have := hB.size; omega) (fun e => by have := ho k e.symm; omega)]
    exact hB.block k hk⟩
theorem owns_b {w : World} {base : Nat} {e : TypeId} {size n : Nat} {v : Value} {xs : List Value} (h : w.ownsRow base e size v n xs) : ∀ g, v.ownBlock = some g → base ≤ g := by
  intro g hg
  rcases h.2 with ⟨rfl, _⟩ | ⟨g', c, cur, rfl, h1, _⟩
  · simp [Value.ownBlock] at hg
  · simp [Value.ownBlock] at hg
    omega
/-- append of a row of values onto one's own. -/
theorem append_v {w : World} {ops : Array Oper} {rest : List Oper} {o : Oper} {a : Act} {Q : Exit → Act → World → Prop} (hgd : o.guard = none) (s x : Operand)
    (ho : o.op = .call { callee := .builtin .append, args := #[s, x], argTypes := #[47, 47] }) (base : Nat) (l m : List VV) (v : Value) (hs : a.eval s = v) (hown : w.ownsRow base 24 5 v l.length (flat l))
    (u : Value) (hx : a.eval x = u) (hu : ReadsV w u m) (hcap : ∀ c, u = .slice none 0 c → c = 0) (hn : l.length + m.length ≤ 2932031007402) (hbase : base ≤ w.heap.size)
    (h : ∀ v' w', w'.ownsRow base 24 5 v' (l ++ m).length (flat (l ++ m)) → w.grownBy w' v.ownBlock → wpList Tryd.prog ops Q rest (a.put o.dst v') w') : wpList Tryd.prog ops Q (o :: rest) a w := by
  obtain ⟨i0, hi, hz0, hz1, hz2⟩ := info_parts info24
  have main : ∀ ad c, u = .slice (some ad) m.length c → (∀ j u, (flat m)[j]? = some u → w.cell? (ad.add j) = some u) → wpList Tryd.prog ops Q (o :: rest) a w := fun ad c hu' hc =>
    wpList_append_own w hgd s x 47 ho base 24 i0 _ 5 48 Tryd.underlying47 hi hz0 hz1 hz2 rfl (by decide) v l.length (flat l) hs hown ad m.length c (flat m) (hx.trans hu') (flat_length m) hc (flat_one' m)
      (by unfold maxLen; omega) (by omega) hbase fun v' w' h1 h2 _ => h v' w' (by rw [flat_append, List.length_append]; exact h1) h2
  rcases hu with ⟨A, c, rfl, rfl⟩ | ⟨b, off, cap, rfl, hlt, hc⟩
  · cases A with
    | none =>
      obtain rfl := hcap c rfl
      refine wpList_append_own_none hgd s x 47 ho base 24 i0 5 Tryd.underlying47 hi v l.length (flat l) hs hown hx ?_
      exact h v w (by simpa using hown) ⟨rfl, rfl, rfl, Nat.le_refl _, fun _ _ _ => rfl⟩
    | some ad => exact main ad c rfl (fun j u hu => by simp [flat] at hu)
  · exact main _ cap rfl (fun j u hu => by
      have := (rows5_iff _ _ _ _).1 hc j u hu
      by_cases e : j = 0
      · subst e; simpa [Addr.add] using this
      · simpa [Addr.add, e] using this)
/-- The five cells of a value at place o of block B. -/
def At5 (w : World) (B o : Nat) (v : VV) : Prop :=
  w.cell? ⟨B, o, none⟩ = some (.int .i64 v.k) ∧ w.cell? ⟨B, o + 1, none⟩ = some (.bool v.b) ∧ w.cell? ⟨B, o + 2, none⟩ = some (.float .f64 v.x) ∧ w.cell? ⟨B, o + 3, none⟩ = some (.string v.s) ∧ w.cell? ⟨B, o + 4, none⟩ = some (.int .i64 v.i)
theorem At5.keep {w w' : World} {B o : Nat} {v : VV} (h : At5 w B o v) (he : w'.heap[B]? = w.heap[B]?) : At5 w' B o v := by
  have hc : ∀ o, w'.cell? ⟨B, o, none⟩ = w.cell? ⟨B, o, none⟩ := fun o => World.cell?_of_block he
  unfold At5
  simp only [hc]
  exact h
theorem at10 {X : World} {gb o b o2 : Nat} {u y : VV} (k1 : At5 X gb o u) (k2 : At5 X b o2 y) : X.cell? ⟨gb, o, none⟩ = some (.int .i64 u.k) ∧ X.cell? ⟨gb, o + 1, none⟩ = some (.bool u.b) ∧ X.cell? ⟨gb, o + 2, none⟩ = some (.float .f64 u.x) ∧ X.cell? ⟨gb, o + 3, none⟩ = some (.string u.s) ∧ X.cell? ⟨gb, o + 4, none⟩ = some (.int .i64 u.i) ∧ X.cell? ⟨b, o2, none⟩ = some (.int .i64 y.k) ∧ X.cell? ⟨b, o2 + 1, none⟩ = some (.bool y.b) ∧ X.cell? ⟨b, o2 + 2, none⟩ = some (.float .f64 y.x) ∧ X.cell? ⟨b, o2 + 3, none⟩ = some (.string y.s) ∧ X.cell? ⟨b, o2 + 4, none⟩ = some (.int .i64 y.i) :=
  ⟨k1.1, k1.2.1, k1.2.2.1, k1.2.2.2.1, k1.2.2.2.2, k2.1, k2.2.1, k2.2.2.1, k2.2.2.2.1, k2.2.2.2.2⟩
theorem owns_empty (w : World) (B base : Nat) (hB : B = w.heap.size) (hb : base ≤ B) : (w.alloc (.cells #[] 24)).ownsRow base 24 5 (.slice (some ⟨B, 0, none⟩) 0 0) ([] : List VV).length (flat []) := by
  subst hB
  exact ⟨rfl, .inr ⟨w.heap.size, 0, #[], rfl, hb, World.alloc_heap_new w _, Nat.le_refl _, by unfold maxLen; omega, rfl, rfl⟩⟩
theorem reads_new (w : World) (v : VV) (B : Nat) (hB : B = w.heap.size) : ReadsV (w.alloc (.cells #[.int .i64 v.k, .bool v.b, .float .f64 v.x, .string v.s, .int .i64 v.i] 24)) (.slice (some ⟨B, 0, none⟩) 1 1) [v] := by
  subst hB
  refine .inr ⟨_, 0, 1, rfl, by simp, (rows5_iff _ _ _ _).2 fun j u hu => ?_⟩
  have := World.alloc_heap_new w (.cells #[.int .i64 v.k, .bool v.b, .float .f64 v.x, .string v.s, .int .i64 v.i] 24)
  rw [flat_one] at hu
  have hj : j < 5 := by
    have := (List.getElem?_eq_some_iff.1 hu).1
    simpa [cells5] using this
  simp only [World.cell?, this]
  simpa [cells5] using hu
theorem reads_take {w : World} {gb cap p : Nat} {l : List VV} (h : Rows5 w gb 0 l) (hg : gb < w.heap.size) (hp : p ≤ l.length) : ReadsV w (.slice (some ⟨gb, 0, none⟩) p cap) (l.take p) := by
  refine .inr ⟨gb, 0, cap, by rw [List.length_take, Nat.min_eq_left hp], hg, fun j hj => ?_⟩
  rw [List.length_take] at hj
  have e : (l.take p)[j]! = l[j]! := by
    rw [getElem!_pos (l.take p) j (by rw [List.length_take]; omega), getElem!_pos l j (by omega), List.getElem_take]
  rw [e]
  exact h j (by omega)
theorem reads_drop {w : World} {gb cap p : Nat} {l : List VV} (h : Rows5 w gb 0 l) (hg : gb < w.heap.size) (hp : p ≤ l.length) : ReadsV w (.slice (some ⟨gb, p * 5, none⟩) (l.length - p) cap) (l.drop p) := by
  refine .inr ⟨gb, p * 5, cap, by rw [List.length_drop], hg, fun j hj => ?_⟩
  rw [List.length_drop] at hj
  have e : (l.drop p)[j]! = l[p + j]! := by
    rw [getElem!_pos (l.drop p) j (by rw [List.length_drop]; omega), getElem!_pos l (p + j) (by omega), List.getElem_drop]
  rw [e]
  have e2 : p * 5 + j * 5 = 0 + (p + j) * 5 := by omega
  rw [e2]
  exact h (p + j) (by omega)
theorem out_rel {w : World} {base n : Nat} {v : Value} {L : List GV} (hL : L ≠ []) (hn : n ≤ base) (h : w.ownsRow base 24 5 v (L.map (·.1)).length (flat (L.map (·.1)))) :
    ∃ gb cap', v = .slice (some ⟨gb, 0, none⟩) L.length cap' ∧ L.length ≤ cap' ∧ Hid (Rows5 w gb 0 (L.map (·.1))) ∧ gb < w.heap.size ∧ n ≤ gb := by
  rcases h.2 with ⟨_, h0⟩ | ⟨g, c, cur, e, _⟩
  · rw [List.length_map] at h0
    exact absurd (List.length_eq_zero_iff.1 h0) hL
  · subst e
    obtain ⟨h1, h2, h3, h4⟩ := owns_rows h
    rw [List.length_map] at h3
    exact ⟨g, c, by rw [List.length_map], h3, hide h1, h4, Nat.le_trans hn h2⟩
theorem own_some {w : World} {base : Nat} {v : Value} {L : List VV} (hL : L ≠ []) (h : w.ownsRow base 24 5 v L.length (flat L)) : ∃ g c, v = .slice (some ⟨g, 0, none⟩) L.length c := by
  rcases h.2 with ⟨_, h0⟩ | ⟨g, c, cur, e, _⟩
  · exact absurd (List.length_eq_zero_iff.1 h0) hL
  · exact ⟨g, c, e⟩
theorem gb_block {w w' : World} {ob : Option Nat} {base k : Nat} (hg : w.grownBy w' ob) (ho : ∀ g, ob = some g → base ≤ g) (hk : k < base) (hs : base ≤ w.heap.size) : w'.heap[k]? = w.heap[k]? :=
  hg.block k (by omega) (fun e => by have := ho k e.symm; omega)
theorem alloc_block (w : World) (o : Obj) {k : Nat} (hk : k < w.heap.size) : (w.alloc o).heap[k]? = w.heap[k]? := ((Below.refl _ _).alloc (Nat.le_refl _) o).block k hk
theorem reads_zero {w : World} {A : Option Addr} {n c : Nat} {m : List VV} (hn : n = 0) (hm : m = []) : ReadsV w (.slice A n c) m := .inl ⟨A, c, by rw [hn], hm⟩
theorem keepR {w w1 : World} {gb off : Nat} {l : List VV} (h : Rows5 w gb off l) (hg : gb < w.heap.size) (hb : Below w.heap.size w w1) : Rows5 w1 gb off l ∧ gb < w1.heap.size := ⟨h.keep (hb.block gb hg), Nat.lt_of_lt_of_le hg hb.size⟩
theorem sort_snoc {α : Type} (c : α → α → Int) (l : List α) (x : α) : sortC c (l ++ [x]) = insC c x (sortC c l) := by
  unfold sortC
  rw [List.foldl_append]
  rfl
theorem ins_at {α : Type} [Inhabited α] (c : α → α → Int) (x : α) : ∀ (l : List α) (p : Nat), p ≤ l.length → (∀ i, i < p → c l[i]! x < 0) → (p < l.length → 0 < c l[p]! x) → insC c x l = l.take p ++ x :: l.drop p
  | [], p, hp, _, _ => by
    obtain rfl : p = 0 := by simpa using hp
    rfl
  | y :: l, 0, _, _, h => by
    have := h (by simp)
    simp only [List.getElem!_cons_zero] at this
    unfold insC
    rw [if_neg (by omega), if_neg (by omega)]
    rfl
  | y :: l, p + 1, hp, hl, h => by
    have h0 := hl 0 (by omega)
    simp only [List.getElem!_cons_zero] at h0
    unfold insC
    rw [if_pos h0, ins_at c x l p (by simpa using hp) (fun i hi => by simpa using hl (i + 1) (by omega)) (fun hlt => by simpa using h (by simpa using hlt))]
    rfl
theorem ins_eq {α : Type} [Inhabited α] (c : α → α → Int) (x : α) : ∀ (l : List α) (p : Nat), p < l.length → (∀ i, i < p → c l[i]! x < 0) → c l[p]! x = 0 → insC c x l = l
  | [], p, hp, _, _ => by simp at hp
  | y :: l, 0, _, _, h => by
    simp only [List.getElem!_cons_zero] at h
    unfold insC
    rw [if_neg (by omega), if_pos h]
  | y :: l, p + 1, hp, hl, h => by
    have h0 := hl 0 (by omega)
    simp only [List.getElem!_cons_zero] at h0
    unfold insC
    rw [if_pos h0, ins_eq c x l p (by simpa using hp) (fun i hi => by simpa using hl (i + 1) (by omega)) (by simpa using h)]
theorem ins_len {α : Type} (c : α → α → Int) (x : α) : ∀ l : List α, (insC c x l).length ≤ l.length + 1
  | [] => by simp [insC]
  | y :: l => by
    have := ins_len c x l
    unfold insC
    repeat' split
    all_goals simp
    omega
theorem sort_len {α : Type} (c : α → α → Int) (l : List α) : (sortC c l).length ≤ l.length := by
  have : ∀ (l acc : List α), (l.foldl (fun acc x => insC c x acc) acc).length ≤ l.length + acc.length := by
    intro l
    induction l with
    | nil => intro acc; simp
    | cons y l ih =>
      intro acc
      have h1 := ih (insC c y acc)
      have h2 := ins_len c y acc
      simp only [List.foldl_cons, List.length_cons]
      omega
  simpa [sortC] using this l []
/-- What the reference's Sort answers, and its error. -/
def RefR (l out : List VV) (e : Int) : Prop :=
  ((∃ v ∈ l, v.good = false) ∧ e = 5 ∧ out = []) ∨ ∃ d : List GV, d.map (·.1) = l ∧ e = 0 ∧ out = (sortC cmpG d).map (·.1)
def RefP (w : World) (l : List VV) (e : Ending) (w' : World) : Prop :=
  Below w.heap.size w w' ∧ ∃ (A : Option Addr) (out : List VV) (c : Nat) (n : Int), e = .returned (.tuple #[.slice A out.length c, .int .i64 n]) ∧ ReadsV w' (.slice A out.length c) out ∧ (∀ ad, A = some ad → w.heap.size ≤ ad.block) ∧ RefR l out n
attribute [local go_sem] World.cell?_alloc_some
set_option maxHeartbeats 4000000 in
set_option maxRecDepth 1000000 in
theorem refSort_row (b off cap : Nat) (l : List VV) (w : World) (hR : Rows5 w b off l) (hb : b < w.heap.size) (hn : l.length ≤ 2932031007402) (hx : ∀ v ∈ l, v.x < 2 ^ 64) :
    Calls Tryd.prog 29 #[.slice (some ⟨b, off, none⟩) l.length cap] w fun e w' => RefP w l e w' := by
  have HR := hide hR
  have HX := hide hx
  clear hR hx
  go_enter Tryd.func29, Tryd.ntmps29
  go_wp2_with fail
  go_loopg [5] l.length (fun g s5 wr => ∃ j : Nat, s5 = .int .i64 j ∧ j ≤ l.length ∧ l.length - j ≤ g ∧ Hid (Below w.heap.size w wr) ∧ Hid (∀ i, i < j → l[i]!.good = true))
  case atStart => exact ⟨0, rfl, by omega, by omega, hide (Below.refl _ _), hide (fun i hi => by omega)⟩
  case round =>
    obtain ⟨j, rfl, hj, hg, hB, hG⟩ := hrel
    by_cases hlt : j < l.length
    · obtain ⟨c0, c1, c2, c3, c4⟩ := unhide HR j hlt
      have hbb : ∀ o, wr.cell? ⟨b, o, none⟩ = w.cell? ⟨b, o, none⟩ := fun o => (unhide hB).cell (p := ⟨b, o, none⟩) hb
      rw [← hbb] at c0 c1 c2 c3 c4
      clear hbb
      have hjz : (j : Int) < l.length := by omega
      have hxj : l[j]!.x < 2 ^ 64 := unhide HX _ (by rw [getElem!_pos l j hlt]; exact List.getElem_mem hlt)
      have HI := hide (refGood_any l[j]! hxj)
      clear hxj
      cases hgd : l[j]!.good
      · rw [hgd] at HI
        have HBad : Hid (∃ v ∈ l, v.good = false) := hide ⟨l[j]!, by rw [getElem!_pos l j hlt]; exact List.getElem_mem hlt, hgd⟩
        unfold VV.agg at HI
        clear hgd
        generalize l[j]! = v at *
        go_wp2_with fail
        refine (unhide HI _).mono ?_
        rintro e w1 ⟨rfl, hb1⟩
        have hB1 := hide (bt' (unhide hB) hb1)
        clear hb1
        go_wp2
        go_ret2
        exact ⟨unhide hB1, none, [], 0, 5, rfl, .inl ⟨none, 0, rfl, rfl⟩, (fun _ h => by cases h), .inl ⟨unhide HBad, rfl, rfl⟩⟩
      · rw [hgd] at HI
        have HGd : Hid (∀ i, i < j + 1 → l[i]!.good = true) := hide (fun i hi => by
          by_cases e : i = j
          · rw [e]; exact hgd
          · exact unhide hG i (by omega))
        unfold VV.agg at HI
        clear hgd
        generalize l[j]! = v at *
        go_wp2_with fail
        refine (unhide HI _).mono ?_
        rintro e w1 ⟨rfl, hb1⟩
        have hB1 := hide (bt' (unhide hB) hb1)
        clear hb1
        go_wp2
        go_roundg (l.length - (j + 1))
        case measure => omega
        case rel => exact ⟨j + 1, by go_num, by omega, Nat.le_refl _, hB1, HGd⟩
    · have hend : j = l.length := by omega
      subst hend
      have hjz : ¬ (l.length : Int) < l.length := by omega
      obtain ⟨d, hd⟩ := row_of l (fun v hv => by
        obtain ⟨i, hi, rfl⟩ := List.mem_iff_getElem.1 hv
        have := unhide hG i hi
        rw [getElem!_pos l i hi] at this
        exact ⟨this, unhide HX _ hv⟩)
      have hlen : l.length = d.length := by rw [← hd]; simp
      have HD : Hid (∀ j, j < l.length → l[j]! = d[j]!.1) := hide (fun j hj => by
        have hj' : j < d.length := by omega
        subst hd
        rw [getElem!_pos (d.map (·.1)) j (by simpa using hj'), getElem!_pos d j hj', List.getElem_map])
      have HM := hide hd
      have HLen := hide hlen
      clear hd hG hlen
      go_wp2_with fail
      go_loopg [4, 6] l.length (fun g s4 s6 wr2 => ∃ j : Nat, s6 = .int .i64 j ∧ j ≤ l.length ∧ l.length - j ≤ g ∧ Hid (Below w.heap.size w wr2) ∧ ((s4 = .slice none 0 0 ∧ j = 0) ∨ ∃ gb cap', s4 = .slice (some ⟨gb, 0, none⟩) (sortC cmpG (d.take j)).length cap' ∧ (sortC cmpG (d.take j)).length ≤ cap' ∧ Hid (Rows5 wr2 gb 0 ((sortC cmpG (d.take j)).map (·.1))) ∧ gb < wr2.heap.size ∧ w.heap.size ≤ gb))
      case atStart => exact ⟨0, rfl, by omega, by omega, hB, .inl ⟨rfl, rfl⟩⟩
      case round =>
        obtain ⟨j, rfl, hj2, hg2, hB2, hout⟩ := hrel
        clear hB
        by_cases hlt2 : j < l.length
        · obtain ⟨c0, c1, c2, c3, c4⟩ := unhide HR j hlt2
          have hbb : ∀ o, wr.cell? ⟨b, o, none⟩ = w.cell? ⟨b, o, none⟩ := fun o => (unhide hB2).cell (p := ⟨b, o, none⟩) hb
          rw [← hbb] at c0 c1 c2 c3 c4
          clear hbb
          have hjz : (j : Int) < l.length := by omega
          have HS := hide (sort_snoc cmpG (d.take j) d[j]!)
          have HTk : Hid (d.take (j + 1) = d.take j ++ [d[j]!]) := hide (by have := unhide HLen; rw [List.take_succ_eq_append_getElem (by omega), getElem!_pos d j (by omega)])
          rw [unhide HD j hlt2] at c0 c1 c2 c3 c4
          generalize hx : d[j]! = x at *
          clear hx
          have hC : At5 wr b (off + j * 5) x.1 := ⟨c0, c1, c2, c3, c4⟩
          have HC := hide hC
          clear hC
          have hbw : b < wr.heap.size := Nat.lt_of_lt_of_le hb (unhide hB2).size
          rcases hout with ⟨rfl, rfl⟩ | ⟨gb, cap', rfl, hcap, hRo, hgb, hgB⟩
          · simp only [Nat.zero_mul, Nat.add_zero] at c0 c1 c2 c3 c4 HC
            have hjz' : (0 : Int) < l.length := by omega
            go_wp2_with fail
            go_loopg [7] 0 (fun g s7 wr2 => s7 = .int .i64 0 ∧ wr2 = wr)
            case atStart => exact ⟨rfl, rfl⟩
            case round =>
              obtain ⟨rfl, rfl⟩ := hrel
              go_wp2_with fail
              go_quiet (fail)
              go_wp2_with fail
              go_quiet (fail)
              have hnb : wr.heap.size ≠ b := by omega
              have hwz := (unhide hB2).size
              have HSO : Hid (sortC cmpG (d.take (0 + 1)) = [x]) := hide (by rw [unhide HTk, unhide HS]; rfl)
              generalize hyx : x.1 = y at *
              have HYX := hide hyx
              clear hyx
              go_wp2_with (at_builtin; first
                | (refine append_v rfl _ _ rfl wr.heap.size [] [y] (.slice (some ⟨wr.heap.size, 0, none⟩) 0 0) rfl ((owns_empty (wr.drewN _) _ _ (by simp) (Nat.le_refl _)).alloc _) _ rfl (reads_new _ y _ (by simp)) (fun c hc => by cases hc) (by simp) (by simp; omega) ?_; intro v' w1 hown' hgrow; obtain ⟨g1, cap1, rfl⟩ := own_some (by simp) hown')
                | (refine append_v rfl _ _ rfl wr.heap.size ([] ++ [y]) [] _ rfl hown' _ rfl (.inl ⟨none, 0, rfl, rfl⟩) (fun c hc => by cases hc; rfl) (by simp) (by have := hgrow.size; simp at this; omega) ?_; intro v'' w2 hown2 hgrow2))
              have hB3 : Below w.heap.size w w2 := by
                refine below_grown (below_grown ?_ (Nat.le_refl _) hgrow ?_) (Nat.le_refl _) hgrow2 (fun g hg => Nat.le_trans hwz (owns_b hown' g hg))
                · exact (((below_drewN (unhide hB2) _).alloc (by simpa using hwz) _).alloc (by simp; omega) _)
                · intro g hg
                  have hge : wr.heap.size = g := by simpa [Value.ownBlock] using hg
                  omega
              go_roundg (l.length - (0 + 1))
              case measure => omega
              case rel =>
                refine ⟨0 + 1, by go_num, by omega, Nat.le_refl _, hide hB3, .inr ?_⟩
                rw [unhide HSO]
                refine out_rel (by simp) hwz (L := [x]) (base := wr.heap.size) ?_
                rw [← unhide HYX] at hown2
                exact hown2
          · have hks := sort_len cmpG (d.take j)
            have hdl : (d.take j).length ≤ j := by rw [List.length_take]; omega
            generalize hkd : sortC cmpG (d.take j) = ks at *
            clear hkd c0 c1 c2 c3 c4
            obtain ⟨wo, hwo⟩ : ∃ wo, wo = wr := ⟨wr, rfl⟩
            subst hwo
            go_wp2_with fail
            go_loopg [7] ks.length (fun g s7 wr2 => ∃ p : Nat, s7 = .int .i64 p ∧ p ≤ ks.length ∧ ks.length - p ≤ g ∧ Hid (Below wo.heap.size wo wr2) ∧ Hid (∀ i, i < p → cmpG ks[i]! x < 0))
            case atStart => exact ⟨0, rfl, by omega, by omega, hide (Below.refl _ _), hide (fun i hi => by omega)⟩
            case round =>
              obtain ⟨p, rfl, hp, hg3, hBp, hlow⟩ := hrel
              have hgw : gb < wr.heap.size := Nat.lt_of_lt_of_le hgb (unhide hBp).size
              have hbw' : b < wr.heap.size := Nat.lt_of_lt_of_le hbw (unhide hBp).size
              have hC2 : At5 wr b (off + j * 5) x.1 := (unhide HC).keep ((unhide hBp).block b hbw)
              by_cases hpl : p < ks.length
              · have hu : At5 wr gb (p * 5) ks[p]!.1 := by
                  have := unhide hRo p (by simpa using hpl)
                  rw [getElem!_pos (ks.map (·.1)) p (by simpa using hpl), List.getElem_map, ← getElem!_pos ks p hpl] at this
                  simp only [Nat.zero_add] at this
                  exact At5.keep (w := wo) this ((unhide hBp).block gb hgb)
                have hpz : (p : Int) < ks.length := by omega
                have HBl := hide (fun w => refBelow_any ks[p]!.1 x.1 ks[p]!.2.1 x.2.1 ks[p]!.2.2 x.2.2 w)
                have HIs := hide (fun w => refIs_any ks[p]!.1 x.1 ks[p]!.2.2 x.2.2 w)
                have HZ := hide (cmpV_zero ks[p]!.1 x.1 ks[p]!.2.1 x.2.1 ks[p]!.2.2 x.2.2)
                have HU := hide hu
                have HV := hide hC2
                have HL2 : Hid (cmpG ks[p]! x < 0 → ∀ i, i < p + 1 → cmpG ks[i]! x < 0) := hide (fun hc i hi => by
                  by_cases e : i = p
                  · rw [e]; exact hc
                  · exact unhide hlow i (by omega))
                by_cases hc1 : cmpV ks[p]!.1 x.1 < 0
                · have hc0 : alikeV sameV ks[p]!.1 x.1 = false := by
                    cases h : alikeV sameV ks[p]!.1 x.1
                    · rfl
                    · have := (unhide HZ).2 h; omega
                  have HL3 := hide (unhide HL2 hc1)
                  rw [hc0] at HIs
                  rw [decide_eq_true hc1] at HBl
                  clear hc0 hc1 HZ HL2
                  generalize hue : ks[p]!.1 = u at *
                  clear hue
                  generalize x.1 = y at *
                  unfold VV.agg at HBl HIs
                  unfold At5 at hu hC2
                  go_wp2_with fail
                  go_region_held3 (fun X => X.cell? ⟨gb, p * 5, none⟩ = some (.int .i64 u.k) ∧ X.cell? ⟨gb, p * 5 + 1, none⟩ = some (.bool u.b) ∧ X.cell? ⟨gb, p * 5 + 2, none⟩ = some (.float .f64 u.x) ∧ X.cell? ⟨gb, p * 5 + 3, none⟩ = some (.string u.s) ∧ X.cell? ⟨gb, p * 5 + 4, none⟩ = some (.int .i64 u.i) ∧ X.cell? ⟨b, off + j * 5, none⟩ = some (.int .i64 y.k) ∧ X.cell? ⟨b, off + j * 5 + 1, none⟩ = some (.bool y.b) ∧ X.cell? ⟨b, off + j * 5 + 2, none⟩ = some (.float .f64 y.x) ∧ X.cell? ⟨b, off + j * 5 + 3, none⟩ = some (.string y.s) ∧ X.cell? ⟨b, off + j * 5 + 4, none⟩ = some (.int .i64 y.i)) (first | exact at10 k3 k4 | exact at10 k1 k2 | go_keep)
                    ((first
                      | (go_at_call 48; refine (unhide HBl _).mono ?_; rintro e w1 ⟨rfl, hb1⟩; have k1 : At5 w1 gb (p * 5) u := (unhide HU).keep (hb1.block gb hgw); have k2 : At5 w1 b (off + j * 5) y := (unhide HV).keep (hb1.block b hbw'))
                      | (go_at_call 24; refine (unhide HIs _).mono ?_; rintro e w2 ⟨rfl, hb2⟩; have k3 : At5 w2 gb (p * 5) u := k1.keep (hb2.block gb (Nat.lt_of_lt_of_le hgw hb1.size)); have k4 : At5 w2 b (off + j * 5) y := k2.keep (hb2.block b (Nat.lt_of_lt_of_le hbw' hb1.size)))))
                  have hBq := hide (bt' (bt' (unhide hBp) ⟨hb1.os, hb1.tape, hb1.output, hb1.size, hb1.block⟩) hb2)
                  clear hb1 hb2 k1 k2 k3 k4
                  go_wp2
                  go_roundg (ks.length - (p + 1))
                  case measure => omega
                  case rel => exact ⟨p + 1, by go_num, by omega, Nat.le_refl _, hBq, HL3⟩
                · have HSe : Hid (cmpV ks[p]!.1 x.1 = 0 → sortC cmpG (d.take (j + 1)) = ks) := hide (fun hc2 => by rw [unhide HTk, unhide HS]; exact ins_eq cmpG x ks p hpl (unhide hlow) hc2)
                  have HSi : Hid (¬ cmpV ks[p]!.1 x.1 = 0 → sortC cmpG (d.take (j + 1)) = ks.take p ++ x :: ks.drop p) := hide (fun hc2 => by rw [unhide HTk, unhide HS]; exact ins_at cmpG x ks p hp (unhide hlow) (fun _ => by have : ¬ cmpV ks[p]!.1 x.1 < 0 := hc1; show 0 < cmpV ks[p]!.1 x.1; omega))
                  rw [decide_eq_false hc1] at HBl
                  clear hc1 HL2
                  generalize hue : ks[p]!.1 = u at *
                  clear hue
                  generalize hyx : x.1 = y at *
                  have HYX := hide hyx
                  clear hyx
                  unfold VV.agg at HBl HIs
                  unfold At5 at hu hC2
                  go_wp2_with fail
                  refine wp_region_held_drew (S := (fun X => X.cell? ⟨gb, p * 5, none⟩ = some (.int .i64 u.k) ∧ X.cell? ⟨gb, p * 5 + 1, none⟩ = some (.bool u.b) ∧ X.cell? ⟨gb, p * 5 + 2, none⟩ = some (.float .f64 u.x) ∧ X.cell? ⟨gb, p * 5 + 3, none⟩ = some (.string u.s) ∧ X.cell? ⟨gb, p * 5 + 4, none⟩ = some (.int .i64 u.i) ∧ X.cell? ⟨b, off + j * 5, none⟩ = some (.int .i64 y.k) ∧ X.cell? ⟨b, off + j * 5 + 1, none⟩ = some (.bool y.b) ∧ X.cell? ⟨b, off + j * 5 + 2, none⟩ = some (.float .f64 y.x) ∧ X.cell? ⟨b, off + j * 5 + 3, none⟩ = some (.string y.s) ∧ X.cell? ⟨b, off + j * 5 + 4, none⟩ = some (.int .i64 y.i))) (by kernel_rfl) (by go_keep) (fun hHeld => ?_)
                  refine wpAnyH_take (i := 0) (v := ?_) rfl (by kernel_rfl) (by kernel_rfl) (by kernel_rfl) (fun _ _ _ h => h) (Or.inl ⟨by rfl, ?_⟩) (by assumption) ?_
                  rotate_left
                  · (intro w hSw; (try dsimp only at hSw); go_simp; try (with_reducible rfl))
                  simp only [List.getElem_toArray, List.getElem_cons_zero, Act.put, List.setIfInBounds_toArray, List.set_cons_succ, List.set_cons_zero]
                  refine wpAnyH_take (i := 1) (v := ?_) rfl (by kernel_rfl) (by kernel_rfl) (by kernel_rfl) (fun _ _ _ h => h) (Or.inl ⟨by rfl, ?_⟩) (by assumption) ?_
                  rotate_left
                  · (intro w hSw; (try dsimp only at hSw); go_simp; try (with_reducible rfl))
                  simp only [List.getElem_toArray, List.getElem_cons_succ, List.getElem_cons_zero, Act.put, List.setIfInBounds_toArray, List.set_cons_succ, List.set_cons_zero]
                  refine wpAnyH_take (i := 2) (v := ?_) rfl (by kernel_rfl) (by kernel_rfl) (by kernel_rfl) (fun _ _ _ h => h) (Or.inl ⟨by rfl, ?_⟩) (by assumption) ?_
                  rotate_left
                  · (intro w hSw; (try dsimp only at hSw); go_simp; try (with_reducible rfl))
                  simp only [List.getElem_toArray, List.getElem_cons_succ, List.getElem_cons_zero, Act.put, List.setIfInBounds_toArray, List.set_cons_succ, List.set_cons_zero]
                  refine wpAnyH_take (i := 3) (v := ?_) rfl (by kernel_rfl) (by kernel_rfl) (by kernel_rfl) (fun _ _ _ h => h) (Or.inl ⟨by rfl, ?_⟩) (by assumption) ?_
                  rotate_left
                  · (intro w hSw; (try dsimp only at hSw); go_simp; try (with_reducible rfl))
                  simp only [List.getElem_toArray, List.getElem_cons_succ, List.getElem_cons_zero, Act.put, List.setIfInBounds_toArray, List.set_cons_succ, List.set_cons_zero]
                  refine wpAnyH_take (i := 4) (v := ?_) rfl (by kernel_rfl) (by kernel_rfl) (by kernel_rfl) (fun _ _ _ h => h) (Or.inl ⟨by rfl, ?_⟩) (by assumption) ?_
                  rotate_left
                  · (intro w hSw; (try dsimp only at hSw); go_simp; try (with_reducible rfl))
                  simp only [List.getElem_toArray, List.getElem_cons_succ, List.getElem_cons_zero, Act.put, List.setIfInBounds_toArray, List.set_cons_succ, List.set_cons_zero]
                  refine wpAnyH_take (i := 5) (v := ?_) rfl (by kernel_rfl) (by kernel_rfl) (by kernel_rfl) (fun _ _ _ h => h) (Or.inl ⟨by rfl, ?_⟩) (by assumption) ?_
                  rotate_left
                  · (intro w hSw; (try dsimp only at hSw); go_simp; try (with_reducible rfl))
                  simp only [List.getElem_toArray, List.getElem_cons_succ, List.getElem_cons_zero, Act.put, List.setIfInBounds_toArray, List.set_cons_succ, List.set_cons_zero]
                  refine wpAnyH_take (i := 6) (v := ?_) rfl (by kernel_rfl) (by kernel_rfl) (by kernel_rfl) (fun _ _ _ h => h) (Or.inl ⟨by rfl, ?_⟩) (by assumption) ?_
                  rotate_left
                  · (intro w hSw; (try dsimp only at hSw); go_simp; try (with_reducible rfl))
                  simp only [List.getElem_toArray, List.getElem_cons_succ, List.getElem_cons_zero, Act.put, List.setIfInBounds_toArray, List.set_cons_succ, List.set_cons_zero]
                  refine wpAnyH_take (i := 7) (v := ?_) rfl (by kernel_rfl) (by kernel_rfl) (by kernel_rfl) (fun _ _ _ h => h) (Or.inl ⟨by rfl, ?_⟩) (by assumption) ?_
                  rotate_left
                  · (intro w hSw; (try dsimp only at hSw); go_simp; try (with_reducible rfl))
                  simp only [List.getElem_toArray, List.getElem_cons_succ, List.getElem_cons_zero, Act.put, List.setIfInBounds_toArray, List.set_cons_succ, List.set_cons_zero]
                  refine wpAnyH_take (i := 8) (v := ?_) rfl (by kernel_rfl) (by kernel_rfl) (by kernel_rfl) (fun _ _ _ h => h) (Or.inl ⟨by rfl, ?_⟩) (by assumption) ?_
                  rotate_left
                  · (intro w hSw; (try dsimp only at hSw); go_simp; try (with_reducible rfl))
                  simp only [List.getElem_toArray, List.getElem_cons_succ, List.getElem_cons_zero, Act.put, List.setIfInBounds_toArray, List.set_cons_succ, List.set_cons_zero]
                  refine wpAnyH_take (i := 9) (v := ?_) rfl (by kernel_rfl) (by kernel_rfl) (by kernel_rfl) (fun _ _ _ h => h) (Or.inl ⟨by rfl, ?_⟩) (by assumption) ?_
                  rotate_left
                  · (intro w hSw; (try dsimp only at hSw); go_simp; try (with_reducible rfl))
                  simp only [List.getElem_toArray, List.getElem_cons_succ, List.getElem_cons_zero, Act.put, List.setIfInBounds_toArray, List.set_cons_succ, List.set_cons_zero]
                  refine wpAnyH_take (i := 10) (v := ?_) rfl (by kernel_rfl) (by kernel_rfl) (by kernel_rfl) (fun _ _ _ h => h) (Or.inl ⟨by rfl, ?_⟩) (by assumption) ?_
                  rotate_left
                  · (intro w hSw; (try dsimp only at hSw); go_simp; try (with_reducible rfl))
                  simp only [List.getElem_toArray, List.getElem_cons_succ, List.getElem_cons_zero, Act.put, List.setIfInBounds_toArray, List.set_cons_succ, List.set_cons_zero]
                  refine wpAnyH_take (i := 11) (v := ?_) rfl (by kernel_rfl) (by kernel_rfl) (by kernel_rfl) (fun _ _ _ h => h) (Or.inl ⟨by rfl, ?_⟩) (by assumption) ?_
                  rotate_left
                  · (intro w hSw; (try dsimp only at hSw); go_simp; try (with_reducible rfl))
                  simp only [List.getElem_toArray, List.getElem_cons_succ, List.getElem_cons_zero, Act.put, List.setIfInBounds_toArray, List.set_cons_succ, List.set_cons_zero]
                  refine wpAnyH_take (i := 12) (v := ?_) rfl (by kernel_rfl) (by kernel_rfl) (by kernel_rfl) (fun _ _ _ h => h) (Or.inl ⟨by rfl, ?_⟩) (by assumption) ?_
                  rotate_left
                  · (intro w hSw; (try dsimp only at hSw); go_simp; try (with_reducible rfl))
                  simp only [List.getElem_toArray, List.getElem_cons_succ, List.getElem_cons_zero, Act.put, List.setIfInBounds_toArray, List.set_cons_succ, List.set_cons_zero]
                  refine wpAnyH_ready (rs := [13]) (by kernel_rfl) (by simp) ?_
                  refine AllReadyH.cons rfl (fun K hK => ?_) AllReadyH.nil
                  go_simp
                  refine (unhide HBl _).mono ?_
                  rintro e w1 ⟨rfl, hb1⟩
                  have k1 : At5 w1 gb (p * 5) u := (unhide HU).keep (hb1.block gb hgw)
                  have k2 : At5 w1 b (off + j * 5) y := (unhide HV).keep (hb1.block b hbw')
                  go_wp2_with fail
                  refine hK.out _ _ (at10 k1 k2) (fun hHeld1 => ?_)
                  clear hK K hHeld
                  refine wpAnyH_take (i := 14) (v := ?_) rfl (by kernel_rfl) (by kernel_rfl) (by kernel_rfl) (fun _ _ _ h => h) (Or.inl ⟨by rfl, ?_⟩) (by assumption) ?_
                  rotate_left
                  · (intro w hSw; (try dsimp only at hSw); go_simp; try (with_reducible rfl))
                  simp only [List.getElem_toArray, List.getElem_cons_succ, List.getElem_cons_zero, Act.put, List.setIfInBounds_toArray, List.set_cons_succ, List.set_cons_zero]
                  refine wpAnyH_take (i := 15) (v := ?_) rfl (by kernel_rfl) (by kernel_rfl) (by kernel_rfl) (fun _ _ _ h => h) (Or.inl ⟨by rfl, ?_⟩) (by assumption) ?_
                  rotate_left
                  · (intro w hSw; (try dsimp only at hSw); go_simp; try (with_reducible rfl))
                  simp only [List.getElem_toArray, List.getElem_cons_succ, List.getElem_cons_zero, Act.put, List.setIfInBounds_toArray, List.set_cons_succ, List.set_cons_zero]
                  refine wpAnyH_take (i := 16) (v := undef) rfl (by kernel_rfl) (by kernel_rfl) (by kernel_rfl) (fun _ _ _ h => h) (Or.inr ⟨by rfl, rfl⟩) (by assumption) ?_
                  simp only [List.getElem_toArray, List.getElem_cons_succ, List.getElem_cons_zero, Act.put, List.setIfInBounds_toArray, List.set_cons_succ, List.set_cons_zero]
                  refine wpAnyH_take (i := 17) (v := undef) rfl (by kernel_rfl) (by kernel_rfl) (by kernel_rfl) (fun _ _ _ h => h) (Or.inr ⟨by rfl, rfl⟩) (by assumption) ?_
                  simp only [List.getElem_toArray, List.getElem_cons_succ, List.getElem_cons_zero, Act.put, List.setIfInBounds_toArray, List.set_cons_succ, List.set_cons_zero]
                  refine wpAnyH_take (i := 18) (v := undef) rfl (by kernel_rfl) (by kernel_rfl) (by kernel_rfl) (fun _ _ _ h => h) (Or.inr ⟨by rfl, rfl⟩) (by assumption) ?_
                  simp only [List.getElem_toArray, List.getElem_cons_succ, List.getElem_cons_zero, Act.put, List.setIfInBounds_toArray, List.set_cons_succ, List.set_cons_zero]
                  refine wpAnyH_take (i := 19) (v := undef) rfl (by kernel_rfl) (by kernel_rfl) (by kernel_rfl) (fun _ _ _ h => h) (Or.inr ⟨by rfl, rfl⟩) (by assumption) ?_
                  simp only [List.getElem_toArray, List.getElem_cons_succ, List.getElem_cons_zero, Act.put, List.setIfInBounds_toArray, List.set_cons_succ, List.set_cons_zero]
                  refine wpAnyH_take (i := 20) (v := undef) rfl (by kernel_rfl) (by kernel_rfl) (by kernel_rfl) (fun _ _ _ h => h) (Or.inr ⟨by rfl, rfl⟩) (by assumption) ?_
                  simp only [List.getElem_toArray, List.getElem_cons_succ, List.getElem_cons_zero, Act.put, List.setIfInBounds_toArray, List.set_cons_succ, List.set_cons_zero]
                  refine wpAnyH_take (i := 21) (v := undef) rfl (by kernel_rfl) (by kernel_rfl) (by kernel_rfl) (fun _ _ _ h => h) (Or.inr ⟨by rfl, rfl⟩) (by assumption) ?_
                  simp only [List.getElem_toArray, List.getElem_cons_succ, List.getElem_cons_zero, Act.put, List.setIfInBounds_toArray, List.set_cons_succ, List.set_cons_zero]
                  refine wpAnyH_take (i := 22) (v := undef) rfl (by kernel_rfl) (by kernel_rfl) (by kernel_rfl) (fun _ _ _ h => h) (Or.inr ⟨by rfl, rfl⟩) (by assumption) ?_
                  simp only [List.getElem_toArray, List.getElem_cons_succ, List.getElem_cons_zero, Act.put, List.setIfInBounds_toArray, List.set_cons_succ, List.set_cons_zero]
                  refine wpAnyH_take (i := 23) (v := undef) rfl (by kernel_rfl) (by kernel_rfl) (by kernel_rfl) (fun _ _ _ h => h) (Or.inr ⟨by rfl, rfl⟩) (by assumption) ?_
                  simp only [List.getElem_toArray, List.getElem_cons_succ, List.getElem_cons_zero, Act.put, List.setIfInBounds_toArray, List.set_cons_succ, List.set_cons_zero]
                  refine wpAnyH_take (i := 24) (v := undef) rfl (by kernel_rfl) (by kernel_rfl) (by kernel_rfl) (fun _ _ _ h => h) (Or.inr ⟨by rfl, rfl⟩) (by assumption) ?_
                  simp only [List.getElem_toArray, List.getElem_cons_succ, List.getElem_cons_zero, Act.put, List.setIfInBounds_toArray, List.set_cons_succ, List.set_cons_zero]
                  refine wpAnyH_take (i := 25) (v := undef) rfl (by kernel_rfl) (by kernel_rfl) (by kernel_rfl) (fun _ _ _ h => h) (Or.inr ⟨by rfl, rfl⟩) (by assumption) ?_
                  simp only [List.getElem_toArray, List.getElem_cons_succ, List.getElem_cons_zero, Act.put, List.setIfInBounds_toArray, List.set_cons_succ, List.set_cons_zero]
                  refine wpAnyH_take (i := 26) (v := ?_) rfl (by kernel_rfl) (by kernel_rfl) (by kernel_rfl) (fun _ _ _ h => h) (Or.inl ⟨by rfl, ?_⟩) (by assumption) ?_
                  rotate_left
                  · (intro w hSw; (try dsimp only at hSw); go_simp; try (with_reducible rfl))
                  simp only [List.getElem_toArray, List.getElem_cons_succ, List.getElem_cons_zero, Act.put, List.setIfInBounds_toArray, List.set_cons_succ, List.set_cons_zero]
                  refine wpAnyH_done (by kernel_rfl) ?_ _
                  have hB1 := hide (bt' (unhide hBp) ⟨hb1.os, hb1.tape, hb1.output, hb1.size, hb1.block⟩)
                  have hgw1 : gb < w1.heap.size := Nat.lt_of_lt_of_le hgw hb1.size
                  have hbw1 : b < w1.heap.size := Nat.lt_of_lt_of_le hbw' hb1.size
                  have HU1 := hide k1
                  have HV1 := hide k2
                  clear hb1 hu hC2 HBl hHeld1 HU HV
                  unfold At5 at k1 k2
                  go_wp2_with fail
                  by_cases hc2 : cmpV u y = 0
                  · have hc0 : alikeV sameV u y = true := (unhide HZ).1 hc2
                    have HSO := hide (unhide HSe hc2)
                    rw [hc0] at HIs
                    clear hc0 hc2 HZ HSe HSi
                    go_region_held3 ((fun X => X.cell? ⟨gb, p * 5, none⟩ = some (.int .i64 u.k) ∧ X.cell? ⟨gb, p * 5 + 1, none⟩ = some (.bool u.b) ∧ X.cell? ⟨gb, p * 5 + 2, none⟩ = some (.float .f64 u.x) ∧ X.cell? ⟨gb, p * 5 + 3, none⟩ = some (.string u.s) ∧ X.cell? ⟨gb, p * 5 + 4, none⟩ = some (.int .i64 u.i) ∧ X.cell? ⟨b, off + j * 5, none⟩ = some (.int .i64 y.k) ∧ X.cell? ⟨b, off + j * 5 + 1, none⟩ = some (.bool y.b) ∧ X.cell? ⟨b, off + j * 5 + 2, none⟩ = some (.float .f64 y.x) ∧ X.cell? ⟨b, off + j * 5 + 3, none⟩ = some (.string y.s) ∧ X.cell? ⟨b, off + j * 5 + 4, none⟩ = some (.int .i64 y.i))) (first | exact at10 k3 k4 | go_keep)
                      ((first
                        | (go_at_call 24; refine (unhide HIs _).mono ?_; rintro e w2 ⟨rfl, hb2⟩; have k3 : At5 w2 gb (p * 5) u := (unhide HU1).keep (hb2.block gb hgw1); have k4 : At5 w2 b (off + j * 5) y := (unhide HV1).keep (hb2.block b hbw1))))
                    have hB3 : Below wo.heap.size wo w2 := bt' (unhide hB1) ⟨hb2.os, hb2.tape, hb2.output, hb2.size, hb2.block⟩
                    have hR3 := keepR (unhide hRo) hgb hB3
                    have hB4 := bt' (unhide hB2) hB3
                    clear hb2 k1 k2 k3 k4 hB1
                    go_wp2
                    go_roundg (l.length - (j + 1))
                    case measure => omega
                    case rel =>
                      refine ⟨j + 1, by go_num, by omega, Nat.le_refl _, hide hB4, .inr ?_⟩
                      rw [unhide HSO]
                      exact ⟨gb, cap', rfl, hcap, hide hR3.1, hR3.2, hgB⟩
                  · have hc0 : alikeV sameV u y = false := by
                      cases h : alikeV sameV u y
                      · rfl
                      · exact absurd ((unhide HZ).2 h) hc2
                    have HSO := hide (unhide HSi hc2)
                    rw [hc0] at HIs
                    clear hc0 hc2 HZ HSe HSi
                    go_region_held3 ((fun X => X.cell? ⟨gb, p * 5, none⟩ = some (.int .i64 u.k) ∧ X.cell? ⟨gb, p * 5 + 1, none⟩ = some (.bool u.b) ∧ X.cell? ⟨gb, p * 5 + 2, none⟩ = some (.float .f64 u.x) ∧ X.cell? ⟨gb, p * 5 + 3, none⟩ = some (.string u.s) ∧ X.cell? ⟨gb, p * 5 + 4, none⟩ = some (.int .i64 u.i) ∧ X.cell? ⟨b, off + j * 5, none⟩ = some (.int .i64 y.k) ∧ X.cell? ⟨b, off + j * 5 + 1, none⟩ = some (.bool y.b) ∧ X.cell? ⟨b, off + j * 5 + 2, none⟩ = some (.float .f64 y.x) ∧ X.cell? ⟨b, off + j * 5 + 3, none⟩ = some (.string y.s) ∧ X.cell? ⟨b, off + j * 5 + 4, none⟩ = some (.int .i64 y.i))) (first | exact at10 k3 k4 | go_keep)
                      ((first
                        | (go_at_call 24; refine (unhide HIs _).mono ?_; rintro e w2 ⟨rfl, hb2⟩; have k3 : At5 w2 gb (p * 5) u := (unhide HU1).keep (hb2.block gb hgw1); have k4 : At5 w2 b (off + j * 5) y := (unhide HV1).keep (hb2.block b hbw1))))
                    have hB3 : Below wo.heap.size wo w2 := bt' (unhide hB1) ⟨hb2.os, hb2.tape, hb2.output, hb2.size, hb2.block⟩
                    have hR3 := keepR (unhide hRo) hgb hB3
                    have hB4 := bt' (unhide hB2) hB3
                    have hgq := hR3.2
                    have hbq : b < w2.heap.size := Nat.lt_of_lt_of_le hbw1 hb2.size
                    have hWz := hB4.size
                    have K4 := hide k4
                    have HB4 := hide hB4
                    have HR3 := hide hR3.1
                    clear hb2 k1 k2 k3 k4 hB1 hB3 hB4 hR3
                    have hpm : p ≤ (ks.map (·.1)).length := by rw [List.length_map]; exact hp
                    have hml := hide (show ((ks.map (·.1)).take p).length = p by rw [List.length_take, List.length_map]; omega)
                    have hmd := hide (show ((ks.map (·.1)).drop p).length = ks.length - p by rw [List.length_drop, List.length_map])
                    have hpc : (p : Int) ≤ cap' := by omega
                    have hkc : (ks.length : Int) ≤ cap' := by omega
                    by_cases hce : Hid (cap' - p = 0)
                    · have h0 := hide (show ks.length - p = 0 by have := unhide hce; omega)
                      have HCE := hce

                      have hgb' : ∀ g, (Value.slice (some ⟨w2.heap.size, 0, none⟩) 0 0).ownBlock = some g → w2.heap.size ≤ g := fun g hg => by simp [Value.ownBlock] at hg; omega
                      go_wp2_with (at_builtin; first
                        | (refine append_v rfl _ _ rfl w2.heap.size [] ((ks.map (·.1)).take p) (.slice (some ⟨w2.heap.size, 0, none⟩) 0 0) rfl (owns_empty _ _ _ (by simp) (Nat.le_refl _)) _ rfl (by have hq := (reads_take (cap := cap') (unhide HR3) hgq hpm).same ((Below.refl _ _).alloc (Nat.le_refl _) (.cells #[] 24)); exact hq) (fun c hc => by cases hc) (by have := unhide hml; simp only [List.length_nil]; omega) (by simp) ?_; intro v1 w3 hown1 hgrow1; have z3 : w2.heap.size ≤ w3.heap.size := (by have := hgrow1.size; simp at this; omega); have h3 : Rows5 w3 gb 0 (ks.map (·.1)) ∧ gb < w3.heap.size := ⟨(Rows5.keep ((unhide HR3)) (alloc_block _ (.cells #[] 24) hgq)).keep (gb_block hgrow1 hgb' hgq (by simp)), by omega⟩; have k3 : At5 w3 b (off + j * 5) y := (At5.keep (unhide K4) (alloc_block _ (.cells #[] 24) hbq)).keep (gb_block hgrow1 hgb' hbq (by simp)); unfold At5 at k3)
                        | (refine append_v rfl _ _ rfl w2.heap.size ([] ++ (ks.map (·.1)).take p) [y] v1 rfl (hown1.alloc _) _ rfl (reads_new w3 y _ rfl) (fun c hc => by cases hc) (by have := unhide hml; simp only [List.nil_append, List.length_cons, List.length_nil]; omega) (by simp; omega) ?_; intro v2 w4 hown2 hgrow2; have z4 : w2.heap.size ≤ w4.heap.size := (by have := hgrow2.size; simp at this; omega); have h4 : Rows5 w4 gb 0 (ks.map (·.1)) ∧ gb < w4.heap.size := ⟨(h3.1.keep (alloc_block _ _ h3.2)).keep (gb_block hgrow2 (owns_b hown1) hgq (by simp; omega)), by omega⟩; have hce2 := unhide HCE)
                        | (refine append_v rfl _ _ rfl w2.heap.size ([] ++ (ks.map (·.1)).take p ++ [y]) ((ks.map (·.1)).drop p) v2 rfl hown2 _ rfl (reads_zero (unhide h0) (List.length_eq_zero_iff.1 (by have := unhide hmd; have := unhide h0; omega))) (fun c hc => by cases hc) (by have := unhide hml; have := unhide hmd; simp only [List.nil_append, List.length_append, List.length_cons, List.length_nil]; omega) z4 ?_; intro v3 w5 hown3 hgrow3))
                      have hB5 : Below w.heap.size w w5 := by
                        have q1 := below_grown ((unhide HB4).alloc (by first | omega | (simp; omega)) (.cells #[] 24)) (Nat.le_refl _) hgrow1 (fun g hg => by have := hgb' g hg; omega)
                        have q2 := below_grown (q1.alloc (by omega) _) (Nat.le_refl _) hgrow2 (fun g hg => by have := owns_b hown1 g hg; omega)
                        exact below_grown q2 (Nat.le_refl _) hgrow3 (fun g hg => by have := owns_b hown2 g hg; omega)
                      go_roundg (l.length - (j + 1))
                      case measure => omega
                      case rel =>
                        refine ⟨j + 1, by go_num, by omega, Nat.le_refl _, hide hB5, .inr ?_⟩
                        rw [unhide HSO]
                        refine out_rel (by simp) hWz (base := w2.heap.size) ?_
                        have hLe : (ks.take p ++ x :: ks.drop p).map (·.1) = [] ++ (ks.map (·.1)).take p ++ [y] ++ (ks.map (·.1)).drop p := by rw [← unhide HYX]; simp [List.map_take, List.map_drop]
                        rw [hLe]
                        exact hown3
                    · have HCE := hide (show ¬ cap' - p = 0 from hce)
                      clear hce
                      have hgb' : ∀ g, (Value.slice (some ⟨w2.heap.size, 0, none⟩) 0 0).ownBlock = some g → w2.heap.size ≤ g := fun g hg => by simp [Value.ownBlock] at hg; omega
                      go_wp2_with (at_builtin; first
                        | (refine append_v rfl _ _ rfl w2.heap.size [] ((ks.map (·.1)).take p) (.slice (some ⟨w2.heap.size, 0, none⟩) 0 0) rfl (owns_empty _ _ _ (by simp) (Nat.le_refl _)) _ rfl (by have hq := (reads_take (cap := cap') (unhide HR3) hgq hpm).same ((Below.refl _ _).alloc (Nat.le_refl _) (.cells #[] 24)); exact hq) (fun c hc => by cases hc) (by have := unhide hml; simp only [List.length_nil]; omega) (by simp) ?_; intro v1 w3 hown1 hgrow1; have z3 : w2.heap.size ≤ w3.heap.size := (by have := hgrow1.size; simp at this; omega); have h3 : Rows5 w3 gb 0 (ks.map (·.1)) ∧ gb < w3.heap.size := ⟨(Rows5.keep ((unhide HR3)) (alloc_block _ (.cells #[] 24) hgq)).keep (gb_block hgrow1 hgb' hgq (by simp)), by omega⟩; have k3 : At5 w3 b (off + j * 5) y := (At5.keep (unhide K4) (alloc_block _ (.cells #[] 24) hbq)).keep (gb_block hgrow1 hgb' hbq (by simp)); unfold At5 at k3)
                        | (refine append_v rfl _ _ rfl w2.heap.size ([] ++ (ks.map (·.1)).take p) [y] v1 rfl (hown1.alloc _) _ rfl (reads_new w3 y _ rfl) (fun c hc => by cases hc) (by have := unhide hml; simp only [List.nil_append, List.length_cons, List.length_nil]; omega) (by simp; omega) ?_; intro v2 w4 hown2 hgrow2; have z4 : w2.heap.size ≤ w4.heap.size := (by have := hgrow2.size; simp at this; omega); have h4 : Rows5 w4 gb 0 (ks.map (·.1)) ∧ gb < w4.heap.size := ⟨(h3.1.keep (alloc_block _ _ h3.2)).keep (gb_block hgrow2 (owns_b hown1) hgq (by simp; omega)), by omega⟩; have hce2 := unhide HCE)
                        | (refine append_v rfl _ _ rfl w2.heap.size ([] ++ (ks.map (·.1)).take p ++ [y]) ((ks.map (·.1)).drop p) v2 rfl hown2 _ rfl (by have hq := reads_drop (cap := cap' - p) (h4.1) h4.2 hpm; rw [List.length_map] at hq; exact hq) (fun c hc => by cases hc) (by have := unhide hml; have := unhide hmd; simp only [List.nil_append, List.length_append, List.length_cons, List.length_nil]; omega) z4 ?_; intro v3 w5 hown3 hgrow3))
                      have hB5 : Below w.heap.size w w5 := by
                        have q1 := below_grown ((unhide HB4).alloc (by first | omega | (simp; omega)) (.cells #[] 24)) (Nat.le_refl _) hgrow1 (fun g hg => by have := hgb' g hg; omega)
                        have q2 := below_grown (q1.alloc (by omega) _) (Nat.le_refl _) hgrow2 (fun g hg => by have := owns_b hown1 g hg; omega)
                        exact below_grown q2 (Nat.le_refl _) hgrow3 (fun g hg => by have := owns_b hown2 g hg; omega)
                      go_roundg (l.length - (j + 1))
                      case measure => omega
                      case rel =>
                        refine ⟨j + 1, by go_num, by omega, Nat.le_refl _, hide hB5, .inr ?_⟩
                        rw [unhide HSO]
                        refine out_rel (by simp) hWz (base := w2.heap.size) ?_
                        have hLe : (ks.take p ++ x :: ks.drop p).map (·.1) = [] ++ (ks.map (·.1)).take p ++ [y] ++ (ks.map (·.1)).drop p := by rw [← unhide HYX]; simp [List.map_take, List.map_drop]
                        rw [hLe]
                        exact hown3
              · have hpe := hide (show p = ks.length by omega)
                have hpz : ¬ (p : Int) < ks.length := by omega
                have HSO : Hid (sortC cmpG (d.take (j + 1)) = ks.take p ++ x :: ks.drop p) := hide (by rw [unhide HTk, unhide HS]; exact ins_at cmpG x ks p hp (unhide hlow) (fun h => by omega))
                generalize hyx : x.1 = y at *
                have HYX := hide hyx
                clear hyx
                have K4 := hide hC2
                have hR3 := keepR (unhide hRo) hgb (unhide hBp)
                have hB4 := bt' (unhide hB2) (unhide hBp)
                have hgq := hR3.2
                have hbq := hbw'
                have hWz := hB4.size
                have HB4 := hide hB4
                have HR3 := hide hR3.1
                clear hB4 hR3 hC2
                go_wp2_with fail
                go_quiet (fail)
                obtain ⟨n1, hn1⟩ : ∃ n1, n1 = nq := ⟨_, rfl⟩
                subst hn1
                go_wp2_with fail
                go_quiet (fail)
                have hpm : p ≤ (ks.map (·.1)).length := by rw [List.length_map]; exact hp
                have hml := hide (show ((ks.map (·.1)).take p).length = p by rw [List.length_take, List.length_map]; omega)
                have hmd := hide (show ((ks.map (·.1)).drop p).length = ks.length - p by rw [List.length_drop, List.length_map])
                have hpc : (p : Int) ≤ cap' := by omega
                have hkc : (ks.length : Int) ≤ cap' := by omega
                by_cases hce : Hid (cap' - p = 0)
                · have h0 := hide (show ks.length - p = 0 by have := unhide hce; omega)
                  have HCE := hce

                  have hgb' : ∀ g, (Value.slice (some ⟨wr.heap.size, 0, none⟩) 0 0).ownBlock = some g → wr.heap.size ≤ g := fun g hg => by simp [Value.ownBlock] at hg; omega
                  go_wp2_with (at_builtin; first
                    | (refine append_v rfl _ _ rfl wr.heap.size [] ((ks.map (·.1)).take p) (.slice (some ⟨wr.heap.size, 0, none⟩) 0 0) rfl (owns_empty _ _ _ (by simp) (Nat.le_refl _)) _ rfl (by have hq := (reads_take (cap := cap') (Rows5.keep (w' := wr.drewN (n1 + nq)) (unhide HR3) rfl) hgq hpm).same ((Below.refl _ _).alloc (Nat.le_refl _) (.cells #[] 24)); exact hq) (fun c hc => by cases hc) (by have := unhide hml; simp only [List.length_nil]; omega) (by simp) ?_; intro v1 w3 hown1 hgrow1; have z3 : wr.heap.size ≤ w3.heap.size := (by have := hgrow1.size; simp at this; omega); have h3 : Rows5 w3 gb 0 (ks.map (·.1)) ∧ gb < w3.heap.size := ⟨(Rows5.keep ((Rows5.keep (w' := wr.drewN (n1 + nq)) (unhide HR3) rfl)) (alloc_block _ (.cells #[] 24) hgq)).keep (gb_block hgrow1 hgb' hgq (by simp)), by omega⟩; have k3 : At5 w3 b (off + j * 5) y := (At5.keep (At5.keep (w' := wr.drewN (n1 + nq)) (unhide K4) rfl) (alloc_block _ (.cells #[] 24) hbq)).keep (gb_block hgrow1 hgb' hbq (by simp)); unfold At5 at k3)
                    | (refine append_v rfl _ _ rfl wr.heap.size ([] ++ (ks.map (·.1)).take p) [y] v1 rfl (hown1.alloc _) _ rfl (reads_new w3 y _ rfl) (fun c hc => by cases hc) (by have := unhide hml; simp only [List.nil_append, List.length_cons, List.length_nil]; omega) (by simp; omega) ?_; intro v2 w4 hown2 hgrow2; have z4 : wr.heap.size ≤ w4.heap.size := (by have := hgrow2.size; simp at this; omega); have h4 : Rows5 w4 gb 0 (ks.map (·.1)) ∧ gb < w4.heap.size := ⟨(h3.1.keep (alloc_block _ _ h3.2)).keep (gb_block hgrow2 (owns_b hown1) hgq (by simp; omega)), by omega⟩; have hce2 := unhide HCE)
                    | (refine append_v rfl _ _ rfl wr.heap.size ([] ++ (ks.map (·.1)).take p ++ [y]) ((ks.map (·.1)).drop p) v2 rfl hown2 _ rfl (reads_zero (unhide h0) (List.length_eq_zero_iff.1 (by have := unhide hmd; have := unhide h0; omega))) (fun c hc => by cases hc) (by have := unhide hml; have := unhide hmd; simp only [List.nil_append, List.length_append, List.length_cons, List.length_nil]; omega) z4 ?_; intro v3 w5 hown3 hgrow3))
                  have hB5 : Below w.heap.size w w5 := by
                    have q1 := below_grown ((below_drewN (unhide HB4) (n1 + nq)).alloc (by first | omega | (simp; omega)) (.cells #[] 24)) (Nat.le_refl _) hgrow1 (fun g hg => by have := hgb' g hg; omega)
                    have q2 := below_grown (q1.alloc (by omega) _) (Nat.le_refl _) hgrow2 (fun g hg => by have := owns_b hown1 g hg; omega)
                    exact below_grown q2 (Nat.le_refl _) hgrow3 (fun g hg => by have := owns_b hown2 g hg; omega)
                  go_roundg (l.length - (j + 1))
                  case measure => omega
                  case rel =>
                    refine ⟨j + 1, by go_num, by omega, Nat.le_refl _, hide hB5, .inr ?_⟩
                    rw [unhide HSO]
                    refine out_rel (by simp) hWz (base := wr.heap.size) ?_
                    have hLe : (ks.take p ++ x :: ks.drop p).map (·.1) = [] ++ (ks.map (·.1)).take p ++ [y] ++ (ks.map (·.1)).drop p := by rw [← unhide HYX]; simp [List.map_take, List.map_drop]
                    rw [hLe]
                    exact hown3
                · have HCE := hide (show ¬ cap' - p = 0 from hce)
                  clear hce
                  have hgb' : ∀ g, (Value.slice (some ⟨wr.heap.size, 0, none⟩) 0 0).ownBlock = some g → wr.heap.size ≤ g := fun g hg => by simp [Value.ownBlock] at hg; omega
                  go_wp2_with (at_builtin; first
                    | (refine append_v rfl _ _ rfl wr.heap.size [] ((ks.map (·.1)).take p) (.slice (some ⟨wr.heap.size, 0, none⟩) 0 0) rfl (owns_empty _ _ _ (by simp) (Nat.le_refl _)) _ rfl (by have hq := (reads_take (cap := cap') (Rows5.keep (w' := wr.drewN (n1 + nq)) (unhide HR3) rfl) hgq hpm).same ((Below.refl _ _).alloc (Nat.le_refl _) (.cells #[] 24)); exact hq) (fun c hc => by cases hc) (by have := unhide hml; simp only [List.length_nil]; omega) (by simp) ?_; intro v1 w3 hown1 hgrow1; have z3 : wr.heap.size ≤ w3.heap.size := (by have := hgrow1.size; simp at this; omega); have h3 : Rows5 w3 gb 0 (ks.map (·.1)) ∧ gb < w3.heap.size := ⟨(Rows5.keep ((Rows5.keep (w' := wr.drewN (n1 + nq)) (unhide HR3) rfl)) (alloc_block _ (.cells #[] 24) hgq)).keep (gb_block hgrow1 hgb' hgq (by simp)), by omega⟩; have k3 : At5 w3 b (off + j * 5) y := (At5.keep (At5.keep (w' := wr.drewN (n1 + nq)) (unhide K4) rfl) (alloc_block _ (.cells #[] 24) hbq)).keep (gb_block hgrow1 hgb' hbq (by simp)); unfold At5 at k3)
                    | (refine append_v rfl _ _ rfl wr.heap.size ([] ++ (ks.map (·.1)).take p) [y] v1 rfl (hown1.alloc _) _ rfl (reads_new w3 y _ rfl) (fun c hc => by cases hc) (by have := unhide hml; simp only [List.nil_append, List.length_cons, List.length_nil]; omega) (by simp; omega) ?_; intro v2 w4 hown2 hgrow2; have z4 : wr.heap.size ≤ w4.heap.size := (by have := hgrow2.size; simp at this; omega); have h4 : Rows5 w4 gb 0 (ks.map (·.1)) ∧ gb < w4.heap.size := ⟨(h3.1.keep (alloc_block _ _ h3.2)).keep (gb_block hgrow2 (owns_b hown1) hgq (by simp; omega)), by omega⟩; have hce2 := unhide HCE)
                    | (refine append_v rfl _ _ rfl wr.heap.size ([] ++ (ks.map (·.1)).take p ++ [y]) ((ks.map (·.1)).drop p) v2 rfl hown2 _ rfl (by have hq := reads_drop (cap := cap' - p) (h4.1) h4.2 hpm; rw [List.length_map] at hq; exact hq) (fun c hc => by cases hc) (by have := unhide hml; have := unhide hmd; simp only [List.nil_append, List.length_append, List.length_cons, List.length_nil]; omega) z4 ?_; intro v3 w5 hown3 hgrow3))
                  have hB5 : Below w.heap.size w w5 := by
                    have q1 := below_grown ((below_drewN (unhide HB4) (n1 + nq)).alloc (by first | omega | (simp; omega)) (.cells #[] 24)) (Nat.le_refl _) hgrow1 (fun g hg => by have := hgb' g hg; omega)
                    have q2 := below_grown (q1.alloc (by omega) _) (Nat.le_refl _) hgrow2 (fun g hg => by have := owns_b hown1 g hg; omega)
                    exact below_grown q2 (Nat.le_refl _) hgrow3 (fun g hg => by have := owns_b hown2 g hg; omega)
                  go_roundg (l.length - (j + 1))
                  case measure => omega
                  case rel =>
                    refine ⟨j + 1, by go_num, by omega, Nat.le_refl _, hide hB5, .inr ?_⟩
                    rw [unhide HSO]
                    refine out_rel (by simp) hWz (base := wr.heap.size) ?_
                    have hLe : (ks.take p ++ x :: ks.drop p).map (·.1) = [] ++ (ks.map (·.1)).take p ++ [y] ++ (ks.map (·.1)).drop p := by rw [← unhide HYX]; simp [List.map_take, List.map_drop]
                    rw [hLe]
                    exact hown3
        · have hend2 : j = l.length := by omega
          have hjz2 : ¬ (j : Int) < l.length := by omega
          have hdt : d.take j = d := List.take_of_length_le (by have := unhide HLen; omega)
          rw [hdt] at hout
          rcases hout with ⟨rfl, hj0⟩ | ⟨gb, cap', rfl, hcap, hRo, hgb, hgB⟩
          · have hd0 : d = [] := List.length_eq_zero_iff.1 (by have := unhide HLen; omega)
            go_wp2
            go_ret2
            exact ⟨unhide hB2, none, [], 0, 0, rfl, .inl ⟨none, 0, rfl, rfl⟩, (fun _ h => by cases h), .inr ⟨d, unhide HM, rfl, by rw [hd0]; rfl⟩⟩
          · go_wp2
            go_ret2
            refine ⟨unhide hB2, some ⟨gb, 0, none⟩, (sortC cmpG d).map (·.1), cap', 0, by rw [List.length_map]; rfl, ?_, (fun ad h => by cases h; exact hgB), .inr ⟨d, unhide HM, rfl, rfl⟩⟩
            exact .inr ⟨gb, 0, cap', rfl, hgb, unhide hRo⟩
set_option maxHeartbeats 4000000 in
theorem refSort_nil (A : Option Addr) (cap : Nat) (w : World) : Calls Tryd.prog 29 #[.slice A 0 cap] w fun e w' => RefP w [] e w' := by
  go_enter Tryd.func29, Tryd.ntmps29
  go_wp2_with fail
  go_loopg [5] 0 (fun g s5 wr => s5 = .int .i64 0 ∧ wr = w)
  case atStart => exact ⟨rfl, rfl⟩
  case round =>
    obtain ⟨rfl, rfl⟩ := hrel
    go_wp2_with fail
    go_loopg [4, 6] 0 (fun g s4 s6 wr2 => s4 = .slice none 0 0 ∧ s6 = .int .i64 0 ∧ wr2 = wr)
    case atStart => exact ⟨rfl, rfl, rfl⟩
    case round =>
      obtain ⟨rfl, rfl, rfl⟩ := hrel
      go_wp2
      go_ret2
      exact ⟨Below.refl _ _, none, [], 0, 0, rfl, .inl ⟨none, 0, rfl, rfl⟩, (fun _ h => by cases h), .inr ⟨[], rfl, rfl, rfl⟩⟩
theorem refSort_any (A : Option Addr) (cap : Nat) (l : List VV) (w : World) (h : ReadsV w (.slice A l.length cap) l) (hn : l.length ≤ 2932031007402) (hx : ∀ v ∈ l, v.x < 2 ^ 64) : Calls Tryd.prog 29 #[.slice A l.length cap] w fun e w' => RefP w l e w' := by
  rcases h with ⟨_, _, _, rfl⟩ | ⟨b, off, c, e, hb, hr⟩
  · exact refSort_nil A cap w
  · cases e
    exact refSort_row b off cap l w hr hb hn hx
end Go.Proofs.YtdlbciiekghkaaaDoor
