import Derived.Test.YtdlbciiekghkaaaDoorTc
namespace Go.Proofs.YtdlbciiekghkaaaDoor
open Go Go.Proofs Go.Shelf Go.RowKit Go.Lib Go.Sort FM
attribute [local go_sem] bits_run run_store_float
theorem out_owns {w : World} {B base : Nat} {kg : List GV} (h : Out w B kg kg.length) (hb : base ≤ B) (hn : kg.length ≤ 2932031007402) : w.ownsRow base 24 5 (.slice (some ⟨B, 0, none⟩) (kg.map (·.1)).length kg.length) (kg.map (·.1)).length (flat (kg.map (·.1))) := by
  obtain ⟨c, h1, h2, h3⟩ := h
  refine ⟨by rw [flat_length], .inr ⟨B, kg.length, c, rfl, hb, h1, by rw [List.length_map]; exact Nat.le_refl _, by unfold maxLen; omega, h2, ?_⟩⟩
  rw [List.length_map, List.take_of_length_le (by rw [Array.length_toList]; omega)]
  apply List.ext_getElem?
  intro i
  by_cases hi : i < kg.length * 5
  · have hd : i = i / 5 * 5 + i % 5 := by omega
    have hm : i % 5 < 5 := Nat.mod_lt _ (by omega)
    have hq : i / 5 < kg.length := by omega
    obtain ⟨c0, c1, c2, c3, c4⟩ := h3 (i / 5) hq
    rw [hd, flat_get _ (i / 5) (i % 5) (by rw [List.length_map]; exact hq) hm, getElem!_pos (kg.map (·.1)) (i / 5) (by rw [List.length_map]; exact hq), List.getElem_map, ← getElem!_pos kg (i / 5) hq, Array.getElem?_toList]
    generalize i / 5 = q at *
    generalize i % 5 = t at *
    have ht : t = 0 ∨ t = 1 ∨ t = 2 ∨ t = 3 ∨ t = 4 := by omega
    rcases ht with rfl | rfl | rfl | rfl | rfl
    · exact c0
    · exact c1
    · exact c2
    · exact c3
    · exact c4
  · rw [List.getElem?_eq_none (by rw [Array.length_toList]; omega), List.getElem?_eq_none (by rw [flat_length, List.length_map]; omega)]
/-- value.Sort, in one form. -/
theorem sort_any (g cap : Nat) (l : List VV) (w : World) (hT : Lib.Utf8Tabs 1 2 w) (hR : Rows5 w g 0 l) (hb : g < w.heap.size) (hn : l.length ≤ 2932031007402) (hx : ∀ v ∈ l, v.x < 2 ^ 64) :
    Calls Tryd.prog 28 #[.slice (some ⟨g, 0, none⟩) l.length cap] w fun e w' => ∃ (A : Option Addr) (ks : List VV) (c : Nat) (n : Int), e = .returned (.tuple #[.slice A ks.length c, .int .i64 n]) ∧ w'.ownsRow w.heap.size 24 5 (.slice A ks.length c) ks.length (flat ks) ∧ SortR l ks n ∧ ks.length ≤ l.length ∧ RowKit.Below w.heap.size w w' := by
  refine (sort28 g cap l w hT hR hb hn hx).mono ?_
  rintro e w' ⟨hB, ⟨hbad, rfl⟩ | ⟨d, kg, B, hd, ha, rfl, ho, hBB⟩⟩
  · exact ⟨none, [], 0, 5, rfl, ⟨rfl, .inl ⟨rfl, rfl⟩⟩, .inl ⟨hbad, rfl, rfl⟩, Nat.zero_le _, hB⟩
  · have hl : kg.length ≤ l.length := by
      rw [ha.length, ← hd, List.length_map]
      exact sort_len cmpG d
    refine ⟨some ⟨B, 0, none⟩, kg.map (·.1), kg.length, 0, by rw [List.length_map], out_owns ho hBB (by omega), .inr ⟨d, kg, hd, rfl, rfl, ha⟩, by rw [List.length_map]; exact hl, hB⟩
def v99 : VV := ⟨0, false, 0, ByteArray.empty, 99⟩
def v00 : VV := ⟨0, false, 0, ByteArray.empty, 0⟩
theorem rows_prefix {w : World} {b off : Nat} {l m : List VV} (h : Rows5 w b off (l ++ m)) : Rows5 w b off l := by
  intro j hj
  have := h j (by rw [List.length_append]; omega)
  rw [getElem!_pos (l ++ m) j (by rw [List.length_append]; omega), List.getElem_append_left hj, ← getElem!_pos l j hj] at this
  exact this
theorem rows_last {w : World} {b : Nat} {l : List VV} {v : VV} (h : Rows5 w b 0 (l ++ [v])) : At5 w b (l.length * 5) v := by
  have := h l.length (by simp)
  rw [getElem!_pos (l ++ [v]) l.length (by simp), List.getElem_append_right (Nat.le_refl _)] at this
  simp only [Nat.zero_add, Nat.sub_self, List.getElem_cons_zero] at this
  exact this
theorem gbt {w w1 w2 : World} {o : Option Nat} (h : w.grownBy w1 o) (k : w1.grownBy w2 o) : w.grownBy w2 o :=
  ⟨k.os.trans h.os, k.tape.trans h.tape, k.output.trans h.output, Nat.le_trans h.size k.size, fun b hb ho => (k.block b (Nat.lt_of_lt_of_le hb h.size) ho).trans (h.block b hb ho)⟩
theorem gb_below {w w1 : World} (h : RowKit.Below w.heap.size w w1) (o : Option Nat) : w.grownBy w1 o := ⟨h.os, h.tape, h.output, h.size, fun b hb _ => h.block b hb⟩
theorem gb_set5 (w : World) (B o : Nat) (v0 v1 v2 v3 v4 : Value) : w.grownBy (((((w.setCell ⟨B, o, none⟩ v0).setCell ⟨B, o + 1, none⟩ v1).setCell ⟨B, o + 2, none⟩ v2).setCell ⟨B, o + 3, none⟩ v3).setCell ⟨B, o + 4, none⟩ v4) (some B) := by
  have one : ∀ (w : World) (o : Nat) (v : Value), w.grownBy (w.setCell ⟨B, o, none⟩ v) (some B) := fun w o v => by
    refine ⟨rfl, rfl, rfl, by simp [World.setCell], ?_⟩
    intro k _ hne
    have : B ≠ k := fun e => hne (by rw [e])
    simp [World.setCell, Array.getElem?_modify, this]
  exact gbt (gbt (gbt (gbt (one _ _ _) (one _ _ _)) (one _ _ _)) (one _ _ _)) (one _ _ _)
theorem reads_gb {w w' : World} {v : Value} {l : List VV} {ob : Option Nat} (h : ReadsV w v l) (hg : w.grownBy w' ob) (hne : l ≠ [] → ∀ b, v.ownBlock = some b → some b ≠ ob) : ReadsV w' v l := by
  rcases h with h | ⟨b, off, cap, rfl, hlt, hc⟩
  · exact .inl h
  · by_cases h0 : l = []
    · subst h0
      exact .inl ⟨_, _, rfl, rfl⟩
    · exact .inr ⟨b, off, cap, rfl, Nat.lt_of_lt_of_le hlt hg.size, hc.keep (hg.block b hlt (hne h0 b rfl))⟩
/-- A row of the call's own, whatever it holds. -/
def OwnV (w : World) (base : Nat) (v : Value) (n : Nat) : Prop := ∃ xs, w.ownsRow base 24 5 v n xs
theorem own_cell {w : World} {base B n c o : Nat} (h : OwnV w base (.slice (some ⟨B, 0, none⟩) n c) n) (ho : o < n * 5) : (∃ v, w.cell? ⟨B, o, none⟩ = some v) ∧ w.frozen? ⟨B, o, none⟩ = false := by
  obtain ⟨xs, h⟩ := h
  rcases h.2 with ⟨h, _⟩ | ⟨g', c', cur, e, h1, h2, h3, _, h5, h6⟩
  · cases h
  · cases e
    have hlt : o < cur.size := by
      have : n * 5 ≤ c * 5 := Nat.mul_le_mul_right _ h3
      omega
    refine ⟨⟨cur[o], ?_⟩, ?_⟩
    · simp [go_sem, World.cell?, h2, hlt]
    · simp [go_sem, World.frozen?, h2]
theorem own_set {w : World} {base B n c : Nat} (h : OwnV w base (.slice (some ⟨B, 0, none⟩) n c) n) (o : Nat) (v : Value) : OwnV (w.setCell ⟨B, o, none⟩ v) base (.slice (some ⟨B, 0, none⟩) n c) n := by
  obtain ⟨xs, h⟩ := h
  rcases h.2 with ⟨h, _⟩ | ⟨g', c', cur, e, h1, h2, h3, h4, h5, h6⟩
  · cases h
  · cases e
    have hlt : n * 5 ≤ c * 5 := Nat.mul_le_mul_right _ h3
    refine ⟨(cur.setIfInBounds o v).toList.take (n * 5), ?_, .inr ⟨B, c, cur.setIfInBounds o v, rfl, h1, ?_, h3, h4, by simpa using h5, rfl⟩⟩
    · rw [List.length_take, Array.length_toList, Array.size_setIfInBounds]
      omega
    · simp [World.setCell, Array.getElem?_modify, h2]
theorem own_len {w : World} {base n : Nat} {v : Value} (h : OwnV w base v n) (hn : 0 < n) : ∃ g c, v = .slice (some ⟨g, 0, none⟩) n c := by
  obtain ⟨xs, h⟩ := h
  rcases h.2 with ⟨_, h0⟩ | ⟨g, c, cur, e, _⟩
  · omega
  · exact ⟨g, c, e⟩
theorem append_x {w : World} {ops : Array Oper} {rest : List Oper} {o : Oper} {a : Act} {Q : Exit → Act → World → Prop} (hgd : o.guard = none) (s x : Operand)
    (ho : o.op = .call { callee := .builtin .append, args := #[s, x], argTypes := #[47, 47] }) (base n : Nat) (m : List VV) (v : Value) (hs : a.eval s = v) (hown : OwnV w base v n)
    (b c : Nat) (hx : a.eval x = .slice (some ⟨b, 0, none⟩) m.length c) (hu : Rows5 w b 0 m) (hn : n + m.length ≤ 2932031007402) (hbase : base ≤ w.heap.size)
    (h : ∀ v' w', OwnV w' base v' (n + m.length) → w.grownBy w' v.ownBlock → wpList Tryd.prog ops Q rest (a.put o.dst v') w') : wpList Tryd.prog ops Q (o :: rest) a w := by
  obtain ⟨i0, hi, hz0, hz1, hz2⟩ := info_parts info24
  obtain ⟨xs, hown⟩ := hown
  refine wpList_append_own w hgd s x 47 ho base 24 i0 _ 5 48 Tryd.underlying47 hi hz0 hz1 hz2 rfl (by decide) v n xs hs hown ⟨b, 0, none⟩ m.length c (flat m) hx (flat_length m) ?_ (flat_one' m)
      (by unfold maxLen; omega) (by omega) hbase fun v' w' h1 h2 _ => h v' w' ⟨_, h1⟩ h2
  intro j u hj
  have := (rows5_iff _ _ _ _).1 hu j u hj
  by_cases e : j = 0
  · subst e; simpa [Addr.add] using this
  · simpa [Addr.add, e] using this
theorem rows_new (w : World) (v : VV) : Rows5 (w.alloc (.cells #[.int .i64 v.k, .bool v.b, .float .f64 v.x, .string v.s, .int .i64 v.i] 24)) w.heap.size 0 [v] := by
  rcases reads_new w v w.heap.size rfl with ⟨_, _, h, _⟩ | ⟨b, off, c, e, _, hr⟩
  · cases h
  · cases e
    exact hr
attribute [local go_sem] World.cell?_alloc_some
set_option maxHeartbeats 4000000 in
set_option maxRecDepth 1000000 in
theorem law_sorts (A : Option Addr) (cap : Nat) (l : List VV) (w : World) (hT : Lib.Utf8Tabs 1 2 w) (h : ReadsV w (.slice A l.length cap) l) (hc0 : ∀ c, Value.slice A l.length cap = .slice none 0 c → c = 0) (hn : l.length ≤ 2932031007317) (hx : ∀ v ∈ l, v.x < 2 ^ 64) :
    Calls Tryd.prog 6 #[.slice A l.length cap] w fun e w' => e = .returned (.bool true) ∧ RowKit.Below w.heap.size w w' := by
  have HT := hide hT
  have HR := hide h
  have HX := hide hx
  have HC0 := hide hc0
  clear hT h hx hc0
  go_enter Tryd.func6, Tryd.ntmps6
  go_wp2_with (at_builtin; first
    | (refine append_v rfl _ _ rfl w.heap.size [] l (.slice (some ⟨w.heap.size, 0, none⟩) 0 0) rfl (owns_empty _ _ _ rfl (Nat.le_refl _)) _ rfl ((unhide HR).same ((RowKit.Below.refl _ _).alloc (Nat.le_refl _) _)) (unhide HC0) (by simp only [List.length_nil]; omega) (by simp) ?_; intro v1 w1 hown1 hgrow1)
    | (refine append_v rfl _ _ rfl w.heap.size ([] ++ l) [v99] v1 rfl (hown1.alloc _) _ rfl (reads_new w1 v99 _ rfl) (fun c hc => by cases hc) (by simp only [List.nil_append, List.length_cons, List.length_nil]; omega) (by have := hgrow1.size; simp at this; simp; omega) ?_; intro v2 w2 hown2 hgrow2; obtain ⟨gc, capc, rfl⟩ := own_some (by simp) hown2; have hq := hide (owns_rows hown2); have hcz : (l.length : Int) ≤ capc := (by have := (unhide hq).2.2.1; simp at this; omega); have hO1 := hide hown1; have hG1 := hide hgrow1; have hG2 := hide hgrow2; clear hown1 hown2 hgrow1 hgrow2))
  have hgc := (unhide hq).2.2.2
  have hgw := (unhide hq).2.1
  have hRl := hide (rows_prefix (l := l) (m := [v99]) (by have := (unhide hq).1; simpa using this))
  have h99 := hide (rows_last (l := l) (v := v99) (by have := (unhide hq).1; simpa using this))
  have hB2 : RowKit.Below w.heap.size w w2 := by
    have q1 := below_grown ((RowKit.Below.refl w.heap.size w).alloc (Nat.le_refl _) (.cells #[] 24)) (Nat.le_refl _) (unhide hG1) (fun g hg => by have e : w.heap.size = g := (by simpa [Value.ownBlock] using hg); omega)
    exact below_grown (q1.alloc q1.size _) (Nat.le_refl _) (unhide hG2) (fun g hg => owns_b (unhide hO1) g hg)
  clear hq hO1 hG1 hG2
  have hT2 := hide (tabs_below (unhide HT) hB2)
  refine (sort_any gc capc l w2 (unhide hT2) (unhide hRl) hgc (by omega) (unhide HX)).mono ?_
  rintro e w3 ⟨A1, ks1, c1, n1, rfl, ho1, hs1, hk1, hb3⟩
  have HO1 := hide ho1
  have HS1 := hide hs1
  have hB3 := bt' hB2 hb3
  have hR3 := hide ((unhide hRl).keep (hb3.block gc hgc))
  have h99' := hide ((unhide h99).keep (hb3.block gc hgc))
  have hg3 : gc < w3.heap.size := Nat.lt_of_lt_of_le hgc hb3.size
  have hz23 := hb3.size
  clear ho1 hs1 hRl h99 hb3 hT2
  go_wp2_with fail
  refine (sort_any gc capc l w3 (tabs_below (unhide HT) hB3) (unhide hR3) hg3 (by omega) (unhide HX)).mono ?_
  rintro e w4 ⟨A2, ks2, c2, n2, rfl, ho2, hs2, hk2, hb4⟩
  have HO2 := hide ho2
  have HS2 := hide hs2
  have HB4 := hide hb4
  have hB4 := bt' hB3 hb4
  have hR4 := hide ((unhide hR3).keep (hb4.block gc hg3))
  have h994 := hide ((unhide h99').keep (hb4.block gc hg3))
  have hg4 : gc < w4.heap.size := Nat.lt_of_lt_of_le hg3 hb4.size
  have hz34 := hb4.size
  clear ho2 hs2 hR3 h99' hb4
  go_wp2_with fail
  refine (refSort_any A cap l w4 ((unhide HR).same hB4) (by omega) (unhide HX)).mono ?_
  rintro e w5 ⟨hb5, A3, out, c3, n3, rfl, hr5, hf5, hs5⟩
  obtain ⟨rfl, hl1, he1⟩ := sorts_agree (unhide HS1) hs5
  obtain ⟨rfl, hl2, he2⟩ := sorts_agree (unhide HS2) hs5
  have hB5 := bt' hB4 hb5
  have hg5 : gc < w5.heap.size := Nat.lt_of_lt_of_le hg4 hb5.size
  have hz45 := hb5.size
  have h995 := hide ((unhide h994).keep (hb5.block gc hg4))
  have hc5 : ReadsV w5 (.slice (some ⟨gc, 0, none⟩) l.length capc) l := .inr ⟨gc, 0, capc, rfl, hg5, (unhide hR4).keep (hb5.block gc hg4)⟩
  have ha5 := ((owns_reads (unhide HO1)).same (unhide HB4)).same hb5
  have hb5' := (owns_reads (unhide HO2)).same hb5
  have hl5 := (unhide HR).same hB5
  have HQ1 := hide (fun X (hX : RowKit.Below w5.heap.size w5 X) => eqAll_any A1 A3 c1 c3 ks1 out X (ha5.same hX) (hr5.same hX) hl1 he1 (by omega))
  have HQ2 := hide (fun X (hX : RowKit.Below w5.heap.size w5 X) => eqAll_any A2 A3 c2 c3 ks2 out X (hb5'.same hX) (hr5.same hX) hl2 he2 (by omega))
  have HQ3 := hide (fun X (hX : RowKit.Below w5.heap.size w5 X) => eqAll_any (some ⟨gc, 0, none⟩) A capc cap l l X (hc5.same hX) (hl5.same hX) rfl (fun j _ => eqB_refl _) (by omega))
  have HW := hide (And.intro hb5' (And.intro hr5 (And.intro hc5 (And.intro hl5 (And.intro hf5 hb5)))))
  have HE := hide (And.intro he1 he2)
  have HLN := hide (And.intro hl1 hl2)
  clear hb5' hr5 hc5 hl5 hf5 hb5 he1 he2 hs5 HS1 HS2 ha5 hl1 hl2
  have k99 := unhide h995
  unfold At5 v99 at k99
  go_wp2_with fail
  refine (unhide HQ1 w5 (RowKit.Below.refl _ _)).mono ?_
  rintro e y1 ⟨rfl, hy1⟩
  go_wp2_with fail
  refine (unhide HQ2 y1 hy1).mono ?_
  rintro e y2 ⟨rfl, hy2⟩
  have hy2' := bt' hy1 hy2
  go_wp2_with fail
  refine (unhide HQ3 y2 hy2').mono ?_
  rintro e y3 ⟨rfl, hy3⟩
  have hy := bt' hy2' hy3
  clear hy1 hy2 hy3 hy2' HQ1 HQ2 HQ3 k99
  have k99 := (unhide h995).keep (hy.block gc hg5)
  unfold At5 v99 at k99
  have hzy := hy.size
  have hl0 : (0 : Int) ≤ l.length := by omega
  have hl9 : (l.length : Int) < l.length + 1 := by omega
  -- what is of the call's own
  have hob : ∀ g, (Value.slice A1 ks1.length c1).ownBlock = some g → w2.heap.size ≤ g ∧ g < w3.heap.size := by
    intro g hg
    rcases (unhide HO1).2 with ⟨e, _⟩ | ⟨g', c', cur, e, h1, h2, _⟩
    · rw [e] at hg
      simp [Value.ownBlock] at hg
    · rw [e] at hg
      have : g' = g := by simpa [Value.ownBlock] using hg
      subst this
      exact ⟨h1, (Array.getElem?_eq_some_iff.1 h2).1⟩
  have HOB := hide hob
  have hown0 : OwnV y3 w2.heap.size (.slice A1 ks1.length c1) ks1.length := by
    refine ⟨_, (unhide HO1).kept (w' := y3) (row := none) ?_ ?_⟩
    · exact gbt (gb_below (unhide HB4) _) (gbt (gb_below (unhide HW).2.2.2.2.2 _) (gb_below hy _))
    · by_cases e : (Value.slice A1 ks1.length c1).ownBlock = none
      · exact .inl e
      · exact .inr e
  have HF2 : Hid (∀ X, y3.grownBy X (Value.slice A1 ks1.length c1).ownBlock → Calls Tryd.prog 30 #[.slice A2 ks2.length c2, .slice A3 out.length c3] X fun e w' => e = .returned (.bool true) ∧ RowKit.Below X.heap.size X w') := hide fun X hX => by
    refine eqAll_any A2 A3 c2 c3 ks2 out X (reads_gb ((unhide HW).1.same hy) hX ?_) (reads_gb ((unhide HW).2.1.same hy) hX ?_) (unhide HLN).2 (unhide HE).2 (by omega)
    · intro _ b hb he
      have h1 := hob b he.symm
      have h2 := owns_b (unhide HO2) b hb
      omega
    · intro _ b hb he
      have h1 := hob b he.symm
      cases A3 with
      | none => simp [Value.ownBlock] at hb
      | some ad =>
        have h2 := (unhide HW).2.2.2.2.1 ad rfl
        have h3 : ad.block = b := by simpa [Value.ownBlock] using hb
        omega
  have HF3 : Hid (∀ X, y3.grownBy X (Value.slice A1 ks1.length c1).ownBlock → Calls Tryd.prog 30 #[.slice (some ⟨gc, 0, none⟩) l.length capc, .slice A l.length cap] X fun e w' => e = .returned (.bool true) ∧ RowKit.Below X.heap.size X w') := hide fun X hX => by
    refine eqAll_any (some ⟨gc, 0, none⟩) A capc cap l l X (reads_gb ((unhide HW).2.2.1.same hy) hX ?_) (reads_gb ((unhide HW).2.2.2.1.same hy) hX ?_) rfl (fun j _ => eqB_refl _) (by omega)
    · intro _ b hb he
      have h1 := hob b he.symm
      have h3 : gc = b := by simpa [Value.ownBlock] using hb
      omega
    · intro hne b hb he
      have h1 := hob b he.symm
      rcases unhide HR with ⟨_, _, _, h0⟩ | ⟨b', off', c', e, hlt, _⟩
      · exact hne h0
      · cases e
        have h3 : b' = b := by simpa [Value.ownBlock] using hb
        have := hB2.size
        omega
  have hBy := bt' hB5 hy
  have HBY := hide hBy
  have HN0 := hide hown0
  have hw2 := hB2.size
  clear hown0 hob hBy hy hB5
  go_wp2_with fail
  go_loopg [10] ks1.length (fun g s10 wr => ∃ j : Nat, s10 = .int .i64 j ∧ j ≤ ks1.length ∧ ks1.length - j ≤ g ∧ Hid (OwnV wr w2.heap.size (.slice A1 ks1.length c1) ks1.length) ∧ Hid (y3.grownBy wr (Value.slice A1 ks1.length c1).ownBlock))
  case atStart => exact ⟨0, rfl, by omega, by omega, HN0, hide ⟨rfl, rfl, rfl, Nat.le_refl _, fun _ _ _ => rfl⟩⟩
  case round =>
    obtain ⟨j, rfl, hj, hg, hO, hG⟩ := hrel
    by_cases hlt : j < ks1.length
    · obtain ⟨B, c, hA⟩ := own_len (unhide hO) (by omega)
      obtain ⟨rfl, rfl⟩ : A1 = some ⟨B, 0, none⟩ ∧ c1 = c := by
        cases hA
        exact ⟨rfl, rfl⟩
      clear hA
      have hjz : (j : Int) < ks1.length := by omega
      obtain ⟨⟨o0, d0⟩, f0⟩ := own_cell (unhide hO) (o := j * 5) (by omega)
      obtain ⟨⟨o1, d1⟩, f1⟩ := own_cell (unhide hO) (o := j * 5 + 1) (by omega)
      obtain ⟨⟨o2, d2⟩, f2⟩ := own_cell (unhide hO) (o := j * 5 + 2) (by omega)
      obtain ⟨⟨o3, d3⟩, f3⟩ := own_cell (unhide hO) (o := j * 5 + 3) (by omega)
      obtain ⟨⟨o4, d4⟩, f4⟩ := own_cell (unhide hO) (o := j * 5 + 4) (by omega)
      clear k99
      go_wp2
      go_roundg (ks1.length - (j + 1))
      case measure => omega
      case rel => exact ⟨j + 1, by go_num, by omega, Nat.le_refl _, hide (own_set (own_set (own_set (own_set (own_set (unhide hO) _ _) _ _) _ _) _ _) _ _), hide (gbt (unhide hG) (gb_set5 _ B _ _ _ _ _ _))⟩
    · have hjz : ¬ (j : Int) < ks1.length := by omega
      have hjw := (unhide hG).size
      have hlz : (out.length : Int) = ks1.length := by have := (unhide HLN).1; omega
      clear k99
      go_wp2_with (at_builtin; (refine append_x rfl _ _ rfl w2.heap.size ks1.length [v00] (.slice A1 ks1.length c1) rfl (by obtain ⟨xs, h⟩ := unhide hO; exact ⟨xs, h.alloc _⟩) _ _ rfl (rows_new wr v00) (by simp only [List.length_cons, List.length_nil]; omega) (by simp; omega) ?_; intro v7 w7 hO7 hG7; obtain ⟨g7, c7, rfl⟩ := own_len hO7 (by simp); have HO7 := hide hO7; have HG7 := hide hG7; clear hO7 hG7))
      have hgX : y3.grownBy w7 (Value.slice A1 ks1.length c1).ownBlock := gbt (gbt (unhide hG) (gb_below ((RowKit.Below.refl _ _).alloc (Nat.le_refl _) _) _)) (unhide HG7)
      have HGX := hide hgX
      have how : IntKind.i64.wrap ((out.length : Int) + 1) = (ks1.length : Int) + 1 := by rw [IntKind.wrap_i64]; omega
      have how2 : IntKind.i64.wrap ((ks1.length : Int) + 1) = (ks1.length : Int) + 1 := by rw [IntKind.wrap_i64]; omega
      clear hgX
      refine (unhide HF2 w7 (unhide HGX)).mono ?_
      rintro e z1 ⟨rfl, hz1⟩
      have HG8 := hide (gbt (unhide HGX) (gb_below hz1 _))
      clear hz1
      go_wp2_with fail
      refine (unhide HF3 z1 (unhide HG8)).mono ?_
      rintro e z2 ⟨rfl, hz2⟩
      have HG9 := gbt (unhide HG8) (gb_below hz2 _)
      have hfin : RowKit.Below w.heap.size w z2 := below_grown (unhide HBY) (Nat.le_refl _) HG9 (fun g hg => by have := (unhide HOB g hg).1; omega)
      have HFIN := hide hfin
      clear hz2 HG9 hfin
      go_wp2
      go_ret
      refine ⟨?_, unhide HFIN⟩
      first | rfl | simp [hlz, how2]
end Go.Proofs.YtdlbciiekghkaaaDoor
