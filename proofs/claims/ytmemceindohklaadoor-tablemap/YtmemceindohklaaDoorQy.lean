import Derived.Test.YtmemceindohklaaDoorQo
import Derived.Test.YtmemceindohklaaDoorQr
import Derived.Test.YtmemceindohklaaDoorQq
import Derived.Test.YtmemceindohklaaDoorQp
import Derived.Test.YtmemceindohklaaDoorQv
import Derived.WideKeyEntry
import Derived.Deep.LoopGhost
import Derived.OwnWalk

/-! Xa -/
namespace Go.Proofs.YtmemceindohklaaDoor
open Go Go.Proofs Go.Maps Go.RowKit
set_option linter.unusedSimpArgs false
set_option linter.unusedVariables false
set_option maxHeartbeats 1000000
/-- How the values of a map are stored and read. -/
structure Enc {α : Type} (R : Value → Option (DataW Unit × List MemPlace)) (val : α → Value) (dat : α → DataW Unit) : Prop where
  tot : ∀ a, R (val a) = some (dat a, [])
  inv : ∀ {v : Value} {a : α} {ps : List MemPlace}, R v = some (dat a, ps) → v = val a
structure EncT {α : Type} (val : α → Value) (z : α) (t e : TypeId) : Prop where
  und : Tryd.prog.underlying t = some (.map 34 e)
  zero : ∀ w, (zeroValue e).run Tryd.prog w = .ok (val z) w
def MapG {α : Type} (R : Value → Option (DataW Unit × List MemPlace)) (dat : α → DataW Unit) (z : α) (w : World) (b n sz : Nat) (F : KK → Option α) : Prop :=
  ∃ D : DataW Unit, w.ownsMap Tryd.prog 34 R b n D ∧ Maps.size D = sz ∧ ∀ k, OkK k → D.atKey (kl k) (dat z) = dat ((F k).getD z) ∧ Maps.has D (kl k) = (F k).isSome
def putG {α : Type} (F : KK → Option α) (k : KK) (r : Option α) : KK → Option α := fun q => if q.s = k.s ∧ q.n = k.n then r else F q
theorem putG_same {α : Type} (F : KK → Option α) (k : KK) (r : Option α) : putG F k r k = r := by simp [putG]
theorem putG_other {α : Type} {F : KK → Option α} {k q : KK} (h : q ≠ k) (r : Option α) : putG F k r q = F q := by
  unfold putG
  rw [if_neg (fun e => h (KK.ext' e.1 e.2))]
section
variable {α : Type} {R : Value → Option (DataW Unit × List MemPlace)} {val : α → Value} {dat : α → DataW Unit} {z : α} {w w' : World} {b n sz : Nat} {F : KK → Option α} {k : KK} {t e : TypeId}
theorem MapG.made (w : World) : MapG R dat z (w.alloc (.map #[] 0)) w.heap.size 0 0 (fun _ => none) :=
  ⟨_, World.ownsMap_made w _ _ _, rfl, fun k _ => ⟨rfl, rfl⟩⟩
theorem MapG.lt (h : MapG R dat z w b n sz F) : b < w.heap.size := by
  obtain ⟨D, h, -⟩ := h
  exact h.lt
theorem MapG.block (h : MapG R dat z w b n sz F) (he : w'.heap[b]? = w.heap[b]?) : MapG R dat z w' b n sz F := by
  obtain ⟨D, ⟨es, clock, hb, Ft, hs, hD⟩, h2, h3⟩ := h
  exact ⟨D, ⟨es, clock, he.trans hb, Ft, hs, hD⟩, h2, h3⟩
theorem MapG.mono {n' : Nat} (h : MapG R dat z w b n sz F) (hn : n ≤ n') : MapG R dat z w b n' sz F := by
  obtain ⟨D, h, h2⟩ := h
  exact ⟨D, h.mono hn, h2⟩
theorem MapG.look (E : Enc R val dat) (T : EncT val z t e) (h : MapG R dat z w b n sz F) (hk : OkK k) :
    (Instr.lookup t (.map (some b)) k.agg true).run Tryd.prog w = .ok (.tuple #[val ((F k).getD z), .bool (F k).isSome]) w := by
  obtain ⟨D, h, h2, h3⟩ := h
  obtain ⟨v, ps, hrun, hv⟩ := h.look_ok law33 T.und (T.zero w) (E.tot z) (keyOfK hk)
  obtain ⟨h4, h5⟩ := h3 k hk
  rw [h4] at hv
  rw [hrun, h5, E.inv hv]
theorem MapG.len (T : EncT val z t e) (h : MapG R dat z w b n sz F) (ty : TypeId) : (Builtin.len_ #[t] ty #[.map (some b)]).run Tryd.prog w = .ok (.int .i64 sz) w := by
  obtain ⟨D, h, h2, h3⟩ := h
  rw [h.len T.und ty, h2]
theorem MapG.store (E : Enc R val dat) (T : EncT val z t e) (h : MapG R dat z w b n sz F) (hk : OkK k) (hn : n < maxLen) (r : α) :
    ∃ w', (Instr.mapUpdate t (.map (some b)) k.agg (val r)).run Tryd.prog w = .ok () w' ∧ MapG R dat z w' b (n + 1) (if (F k).isSome then sz else sz + 1) (putG F k (some r)) ∧ w.mapTurned w' b := by
  obtain ⟨D, h, h2, h3⟩ := h
  obtain ⟨w', hrun, ho, ht⟩ := h.store law33 T.und hn (keyOfK hk) (E.tot r)
  have ti := h.tidy law33
  refine ⟨w', hrun, ⟨_, ho, ?_, fun q hq => ?_⟩, ht⟩
  · rw [size_put ti, (h3 k hk).2, h2]
  · by_cases e : q = k
    · subst e
      rw [atKey_put_same ti.isMap (kl_key hk), has_put_same ti.isMap (kl_key hk), putG_same]
      exact ⟨rfl, rfl⟩
    · have ne : kl q ≠ kl k := fun e' => e (kl_inj hq hk e')
      rw [atKey_put_other ne, has_put_other ne, putG_other e]
      exact h3 q hq
theorem MapG.drop (T : EncT val z t e) (h : MapG R dat z w b n sz F) (hk : OkK k) (ty : TypeId) :
    ∃ w', (Builtin.delete_ #[t, 34] ty #[.map (some b), k.agg]).run Tryd.prog w = .ok (.tuple #[]) w' ∧ MapG R dat z w' b n (if (F k).isSome then sz - 1 else sz) (putG F k none) ∧ w.mapTurned w' b := by
  obtain ⟨D, h, h2, h3⟩ := h
  obtain ⟨w', hrun, ho, ht⟩ := h.drop law33 T.und (keyOfK hk) ty
  have ti := h.tidy law33
  have hs := size_del (k := kl k) ti
  refine ⟨w', hrun, ⟨_, ho, ?_, fun q hq => ?_⟩, ht⟩
  · rw [(h3 k hk).2] at hs
    split at hs <;> rename_i hc <;> simp [hc] <;> omega
  · by_cases e : q = k
    · subst e
      rw [atKey_del_same, has_del_same, putG_same]
      exact ⟨rfl, rfl⟩
    · have ne : kl q ≠ kl k := fun e' => e (kl_inj hq hk e')
      rw [atKey_del_other ne, has_del_other ne, putG_other e]
      exact h3 q hq
end
/-! Descriptors. -/
def vD (v : VV) : List (DataW Unit) := [.lit (.int .i64 v.k), .lit (.bool v.b), .lit (.float .f64 v.x), .lit (.string v.s.data.toList), .lit (.int .i64 v.i)]
def dD (d : DD) : DataW Unit := .agg (vD d.v ++ vD d.g ++ vD d.s ++ [.lit (.int .i64 d.w), .lit (.int .i64 d.e), .lit (.int .i64 d.c)])
theorem bytes_inj {a b : ByteArray} (h : a.data.toList = b.data.toList) : a = b := by
  cases a
  cases b
  simp at h
  rw [h]
theorem vv_inj {a b : VV} (h1 : a.k = b.k) (h2 : a.b = b.b) (h3 : a.x = b.x) (h4 : a.s = b.s) (h5 : a.i = b.i) : a = b := by
  cases a
  cases b
  cases h1
  cases h2
  cases h3
  cases h4
  cases h5
  rfl
theorem dD_inj {a b : DD} (h : dD a = dD b) : a = b := by
  unfold dD vD at h
  simp only [List.cons_append, List.nil_append, DataW.agg.injEq, List.cons.injEq, DataW.lit.injEq, Lit.int.injEq, Lit.bool.injEq, Lit.float.injEq, Lit.string.injEq, true_and, and_true] at h
  obtain ⟨a0, a1, a2, a3, a4, b0, b1, b2, b3, b4, c0, c1, c2, c3, c4, d0, d1, d2⟩ := h
  have e1 := vv_inj a0 a1 a2 (bytes_inj a3) a4
  have e2 := vv_inj b0 b1 b2 (bytes_inj b3) b4
  have e3 := vv_inj c0 c1 c2 (bytes_inj c3) c4
  cases a
  cases b
  dsimp only at *
  subst e1 e2 e3 d0 d1 d2
  rfl
theorem dagg_inj {a b : DD} (h : a.agg = b.agg) : a = b := by
  unfold DD.agg at h
  have h' : [Value.int .i64 a.v.k, .bool a.v.b, .float .f64 a.v.x, .string a.v.s, .int .i64 a.v.i, .int .i64 a.g.k, .bool a.g.b, .float .f64 a.g.x, .string a.g.s, .int .i64 a.g.i, .int .i64 a.s.k, .bool a.s.b, .float .f64 a.s.x, .string a.s.s, .int .i64 a.s.i, .int .i64 a.w, .int .i64 a.e, .int .i64 a.c] = [Value.int .i64 b.v.k, .bool b.v.b, .float .f64 b.v.x, .string b.v.s, .int .i64 b.v.i, .int .i64 b.g.k, .bool b.g.b, .float .f64 b.g.x, .string b.g.s, .int .i64 b.g.i, .int .i64 b.s.k, .bool b.s.b, .float .f64 b.s.x, .string b.s.s, .int .i64 b.s.i, .int .i64 b.w, .int .i64 b.e, .int .i64 b.c] := congrArg (fun v => match v with | Value.agg c => c.toList | _ => []) h
  simp only [List.cons.injEq, Value.int.injEq, Value.bool.injEq, Value.float.injEq, Value.string.injEq, true_and, and_true] at h'
  obtain ⟨a0, a1, a2, a3, a4, b0, b1, b2, b3, b4, c0, c1, c2, c3, c4, d0, d1, d2⟩ := h'
  have e1 := vv_inj a0 a1 a2 a3 a4
  have e2 := vv_inj b0 b1 b2 b3 b4
  have e3 := vv_inj c0 c1 c2 c3 c4
  cases a
  cases b
  dsimp only at *
  subst e1 e2 e3 d0 d1 d2
  rfl
open Classical in
noncomputable def dR (v : Value) : Option (DataW Unit × List MemPlace) := if h : ∃ d : DD, v = d.agg then some (dD h.choose, []) else none
theorem dR_agg (d : DD) : dR d.agg = some (dD d, []) := by
  have h : ∃ d' : DD, d.agg = d'.agg := ⟨d, rfl⟩
  unfold dR
  rw [dif_pos h, ← dagg_inj h.choose_spec]
theorem encD : Enc dR DD.agg dD := ⟨dR_agg, fun {v a ps} hv => by
  unfold dR at hv
  split at hv
  · rename_i h
    have e : dD h.choose = dD a := congrArg Prod.fst (Option.some.inj hv)
    rw [h.choose_spec, dD_inj e]
  · cases hv⟩
def zerD : DD := ⟨⟨0, false, 0, ⟨#[]⟩, 0⟩, ⟨0, false, 0, ⟨#[]⟩, 0⟩, ⟨0, false, 0, ⟨#[]⟩, 0⟩, 0, 0, 0⟩
theorem encTD : EncT DD.agg zerD 32 40 := ⟨by kernel_rfl, fun w => by kernel_rfl⟩
/-! Ints. -/
def iR : Value → Option (DataW Unit × List MemPlace)
  | .int .i64 n => some (.lit (.int .i64 n), [])
  | _ => none
theorem encI : Enc iR (fun n : Int => Value.int .i64 n) (fun n : Int => .lit (.int .i64 n)) := ⟨fun _ => rfl, fun {v a ps} hv => by
  unfold iR at hv
  split at hv
  · have e := congrArg Prod.fst (Option.some.inj hv)
    simp at e
    rw [e]
  · cases hv⟩
theorem encTI : EncT (fun n : Int => Value.int .i64 n) 0 56 3 := ⟨by kernel_rfl, fun w => by kernel_rfl⟩
abbrev MapD (w : World) (b n sz : Nat) (F : KK → Option DD) : Prop := MapG dR dD zerD w b n sz F
abbrev MapN (w : World) (b n sz : Nat) (F : KK → Option Int) : Prop := MapG iR (fun n : Int => DataW.lit (.int .i64 n)) (0 : Int) w b n sz F
end Go.Proofs.YtmemceindohklaaDoor

/-! Xb -/
namespace Go.Proofs.YtmemceindohklaaDoor
open Go Go.Proofs Go.Maps Go.RowKit
set_option linter.unusedSimpArgs false
set_option linter.unusedVariables false
set_option maxHeartbeats 1000000
def lookA (s : AS) (q : KK) : Option DD := (s.l.find? (fun e => decide (e.1 = q))).map (fun e => e.2.1)
theorem look_abs (T : TT) (q : KK) : lookA (abs T) q = (T.find q).map (·.d) := by
  unfold lookA abs TT.find
  rw [List.find?_map, Option.map_map]
  rfl
theorem has_look (s : AS) (q : KK) : s.has q = (lookA s q).isSome := by
  unfold AS.has lookA
  rw [Option.isSome_map, List.isSome_find?]
theorem look_del (s : AS) (k q : KK) : lookA (s.del k) q = if q = k then none else lookA s q := by
  unfold lookA AS.del
  rw [List.find?_filter]
  by_cases h : q = k
  · subst h
    rw [if_pos rfl, List.find?_eq_none.2]
    · rfl
    · intro e _
      by_cases he : e.1 = q <;> simp [he]
  · rw [if_neg h]
    congr 2
    funext e
    by_cases he : e.1 = q
    · simp [he, h]
    · simp [he]
theorem find_map_put (l : List EN) (k : KK) (d : DD) (q : KK) : ((l.map (fun e => if e.1 = k then (e.1, d, e.2.2) else e)).find? (fun e => decide (e.1 = q))).map (fun e => e.2.1) = if q = k ∧ l.any (fun e => decide (e.1 = k)) = true then some d else (l.find? (fun e => decide (e.1 = q))).map (fun e => e.2.1) := by
  induction l with
  | nil => simp
  | cons a t ih =>
    rw [List.map_cons, List.find?_cons, List.find?_cons, List.any_cons]
    by_cases hk : a.1 = k
    · by_cases hq : q = k
      · simp [hk, hq]
      · have hq2 : ¬ k = q := fun e => hq e.symm
        simp [hk, hq, hq2] at ih ⊢
        exact ih
    · by_cases hq : a.1 = q
      · have hqk : ¬ q = k := fun e => hk (hq.trans e)
        simp [hk, hq, hqk]
      · simp [hk, hq] at ih ⊢
        simp only [decide_eq_false hk, Bool.false_or]
        exact ih
theorem look_put (s : AS) (k : KK) (d : DD) (q : KK) (hg : goodK k = true) : lookA (s.put k d) q = if q = k then some d else lookA s q := by
  unfold AS.put
  by_cases hh : s.has k = true
  · rw [if_pos hh]
    unfold lookA
    rw [find_map_put]
    unfold AS.has at hh
    by_cases hq : q = k
    · rw [if_pos ⟨hq, hh⟩, if_pos hq]
    · rw [if_neg (fun h => hq h.1), if_neg hq]
  · rw [if_neg hh, if_pos hg]
    unfold lookA
    rw [List.find?_append]
    by_cases hq : q = k
    · subst hq
      have hn : s.l.find? (fun e => decide (e.1 = q)) = none := by
        rw [List.find?_eq_none]
        intro e he
        unfold AS.has at hh
        rw [List.any_eq_true] at hh
        exact fun h => hh ⟨e, he, h⟩
      simp [hn]
    · have hq2 : ¬ k = q := fun e => hq e.symm
      simp [hq, hq2]
theorem len_put (s : AS) (k : KK) (d : DD) (hg : goodK k = true) : (s.put k d).l.length = if s.has k then s.l.length else s.l.length + 1 := by
  unfold AS.put
  by_cases hh : s.has k = true
  · rw [if_pos hh, if_pos hh, List.length_map]
  · rw [if_neg hh, if_pos hg, if_neg hh]
    simp
theorem len_del {T : TT} {W : World} (h : T.Is W) (k : KK) : ((abs T).del k).l.length = if (abs T).has k then (abs T).l.length - 1 else (abs T).l.length := by
  have hk : (abs T).l.Pairwise (fun a b => a.1 ≠ b.1) := by
    unfold abs
    dsimp only
    rw [List.pairwise_map]
    exact h.keys
  unfold AS.del AS.has
  dsimp only
  generalize (abs T).l = l at hk
  induction l with
  | nil => rfl
  | cons a t ih =>
    rw [List.pairwise_cons] at hk
    have ih := ih hk.2
    by_cases ha : a.1 = k
    · have ht : t.filter (fun e => decide (e.1 ≠ k)) = t := by
        rw [List.filter_eq_self]
        intro e he
        simpa using fun e' => hk.1 e he (ha.trans e'.symm)
      rw [List.filter_cons_of_neg (by simp [ha]), ht]
      simp [ha]
    · rw [List.filter_cons_of_pos (by simp [ha]), List.length_cons, ih]
      by_cases ht : t.any (fun e => decide (e.1 = k)) = true
      · have hl : 0 < t.length := by
          cases t with
          | nil => simp at ht
          | cons _ _ => simp
        rw [if_pos ht, if_pos (by rw [List.any_cons, ht]; simp), List.length_cons]
        omega
      · rw [if_neg ht, if_neg (by rw [List.any_cons]; simp [ha]; simpa using ht), List.length_cons]
theorem bad_put {T : TT} {W : World} (h : T.Is W) {k : KK} {d : DD} (hg : goodK k = false) : T.find k = none := by
  cases hf : T.find k with
  | none => rfl
  | some r =>
    have h1 := h.good r (List.mem_of_find?_eq_some hf)
    have h2 := (TT.find_mem hf).2.2
    rw [h2, hg] at h1
    cases h1
/-- The table, and the book that tells the same. -/
structure MW (w X : World) (T : TT) (t0 mb nb : Nat) (F : KK → Option DD) : Prop where
  tis : T.Is X
  tt : T.t = t0
  map : MapD X mb nb T.live.length F
  agr : ∀ k, OkK k → F k = lookA (abs T) k
  dis : mb ∉ T.blocks
  nw : ∀ b ∈ T.blocks, w.heap.size ≤ b
  nm : w.heap.size ≤ mb
  fr : Fr w X []
theorem MW.on {w X Y : World} {T : TT} {t0 mb nb : Nat} {F : KK → Option DD} (h : MW w X T t0 mb nb F) (k : Below X.heap.size X Y) : MW w Y T t0 mb nb F :=
  ⟨h.tis.on k, h.tt, h.map.block (k.block mb h.map.lt), h.agr, h.dis, h.nw, h.nm, h.fr.on k⟩
/-- The table went on; the book is as it was. -/
structure MU (w X : World) (T T' : TT) (t0 mb nb : Nat) (F : KK → Option DD) : Prop where
  tis : T'.Is X
  tt : T'.t = t0
  map : MapD X mb nb T.live.length F
  agr : ∀ k, OkK k → F k = lookA (abs T) k
  dis : mb ∉ T'.blocks
  nw : ∀ b ∈ T'.blocks, w.heap.size ≤ b
  nm : w.heap.size ≤ mb
  fr : Fr w X []
theorem MU.on {w X Y : World} {T T' : TT} {t0 mb nb : Nat} {F : KK → Option DD} (h : MU w X T T' t0 mb nb F) (k : Below X.heap.size X Y) : MU w Y T T' t0 mb nb F :=
  ⟨h.tis.on k, h.tt, h.map.block (k.block mb h.map.lt), h.agr, h.dis, h.nw, h.nm, h.fr.on k⟩
theorem MW.step {w X Y : World} {T T' : TT} {t0 mb nb : Nat} {F : KK → Option DD} (h : MW w X T t0 mb nb F) (hT : T'.Is Y) (ht : T'.t = T.t) (hf : Fr X Y T.blocks) (hb : ∀ b ∈ T'.blocks, b ∈ T.blocks ∨ X.heap.size ≤ b) : MU w Y T T' t0 mb nb F :=
  ⟨hT, ht.trans h.tt, h.map.block (hf.block mb h.map.lt h.dis), h.agr, fun hm => by
    rcases hb mb hm with h1 | h1
    · exact h.dis h1
    · have := h.map.lt; omega,
   fun b hm => by
    rcases hb b hm with h1 | h1
    · exact h.nw b h1
    · exact Nat.le_trans h.fr.size h1,
   h.nm, h.fr.trans hf (fun b hm => .inr (h.nw b hm))⟩
theorem MU.same {w X : World} {T T' : TT} {t0 mb nb : Nat} {F : KK → Option DD} (h : MU w X T T' t0 mb nb F) (hl : T'.live = T.live) (ha : abs T' = abs T) : MW w X T' t0 mb nb F :=
  ⟨h.tis, h.tt, by rw [hl]; exact h.map, fun k hk => by rw [ha]; exact h.agr k hk, h.dis, h.nw, h.nm, h.fr⟩
theorem abs_lenN (T : TT) : (abs T).l.length = T.live.length := by simp [abs]
theorem MU.put {w X : World} {T T' : TT} {t0 mb nb : Nat} {F : KK → Option DD} {k : KK} {d : DD} {W : World} (h : MU w X T T' t0 mb nb F) (hT : T.Is W) (hP : PutT T k d T') (hg : goodK k = true) (hn : nb < maxLen) :
    ∃ Y, (Instr.mapUpdate 32 (.map (some mb)) k.agg d.agg).run Tryd.prog X = .ok () Y ∧ MW w Y T' t0 mb (nb + 1) (putG F k (some d)) ∧ Fr X Y [mb] := by
  obtain ⟨Y, h1, h2, h3⟩ := h.map.store encD encTD (good_ok hg) hn d
  have hf : Fr X Y [mb] := Fr.grown h3.grown
  have ha := abs_put hT hP
  have hl : T'.live.length = if (F k).isSome then T.live.length else T.live.length + 1 := by
    rw [← abs_lenN, ha, len_put _ _ _ hg, abs_lenN, h.agr k (good_ok hg), has_look]
  refine ⟨Y, h1, ⟨h.tis.fr hf (fun b hb hm => h.dis (by simpa using (List.mem_singleton.1 hm) ▸ hb)), h.tt, by rw [hl]; exact h2, fun q hq => ?_, h.dis, h.nw, h.nm, h.fr.trans hf (fun b hm => .inr (by rw [List.mem_singleton.1 hm]; exact h.nm))⟩, hf⟩
  rw [ha, look_put _ _ _ _ hg]
  by_cases e : q = k
  · rw [e, putG_same, if_pos rfl]
  · rw [putG_other e, if_neg e]
    exact h.agr q hq
theorem MU.del {w X : World} {T T' : TT} {t0 mb nb : Nat} {F : KK → Option DD} {k : KK} {W : World} (h : MU w X T T' t0 mb nb F) (hT : T.Is W) (ha : abs T' = (abs T).del k) (hk : OkK k) (ty : TypeId) :
    ∃ Y, (Builtin.delete_ #[32, 34] ty #[.map (some mb), k.agg]).run Tryd.prog X = .ok (.tuple #[]) Y ∧ MW w Y T' t0 mb nb (putG F k none) ∧ Fr X Y [mb] := by
  obtain ⟨Y, h1, h2, h3⟩ := h.map.drop encTD hk ty
  have hf : Fr X Y [mb] := Fr.grown h3.grown
  have hl : T'.live.length = if (F k).isSome then T.live.length - 1 else T.live.length := by
    rw [← abs_lenN, ha, len_del hT, abs_lenN, h.agr k hk, has_look]
  refine ⟨Y, h1, ⟨h.tis.fr hf (fun b hb hm => h.dis (by simpa using (List.mem_singleton.1 hm) ▸ hb)), h.tt, by rw [hl]; exact h2, fun q hq => ?_, h.dis, h.nw, h.nm, h.fr.trans hf (fun b hm => .inr (by rw [List.mem_singleton.1 hm]; exact h.nm))⟩, hf⟩
  rw [ha, look_del]
  by_cases e : q = k
  · rw [e, putG_same, if_pos rfl]
  · rw [putG_other e, if_neg e]
    exact h.agr q hq
theorem MU.clear {w X : World} {T T' : TT} {t0 mb nb : Nat} {F : KK → Option DD} (h : MU w X T T' t0 mb nb F) (hl : T'.live = []) : MW w (X.alloc (.map #[] 0)) T' t0 X.heap.size 0 (fun _ => none) := by
  have bl : Below X.heap.size X (X.alloc (Obj.map #[] 0)) := (Below.refl _ _).alloc (Nat.le_refl _) _
  refine ⟨h.tis.on bl, h.tt, by rw [hl]; exact MapG.made X, fun k _ => ?_, fun hm => ?_, h.nw, h.fr.size, h.fr.on bl⟩
  · unfold lookA abs
    rw [hl]
    rfl
  · have := h.tis.lt _ hm
    omega
end Go.Proofs.YtmemceindohklaaDoor

/-! Xd -/
namespace Go.Proofs.YtmemceindohklaaDoor
open Go Go.Proofs Go.Maps Go.RowKit
set_option linter.unusedSimpArgs false
set_option linter.unusedVariables false
set_option maxHeartbeats 1000000
/-- Something that lies in these blocks. -/
structure Ob where
  bs : List Nat
  P : World → Prop
structure Ob.Ok (o : Ob) : Prop where
  on : ∀ {X Y : World}, (∀ b ∈ o.bs, Y.heap[b]? = X.heap[b]?) → o.P X → o.P Y
  lt : ∀ {X : World}, o.P X → ∀ b ∈ o.bs, b < X.heap.size
  nm : ∀ {X : World}, o.P X → ∀ b ∈ o.bs, ∀ q, X.heap[b]? = some q → ¬ NM q ∧ ¬ LD q
def tabO (T : TT) : Ob := ⟨T.blocks, T.Is⟩
def boxO (B : Nat) (cs : List Value) : Ob := ⟨[B], fun X => Holds X B cs ∧ 0 < cs.length⟩
def mapO {α : Type} (R : Value → Option (DataW Unit × List MemPlace)) (dat : α → DataW Unit) (z : α) (b n sz : Nat) (F : KK → Option α) : Ob := ⟨[b], fun X => MapG R dat z X b n sz F⟩
def rowO (base e s : Nat) (v : Value) (n : Nat) (ys : List Value) : Ob := ⟨v.ownBlock.toList, fun X => X.ownsRow base e s v n ys⟩
theorem tabO_ok (T : TT) : (tabO T).Ok := ⟨fun h k => TT.Is.block k h, fun h b hb => TT.Is.lt h b hb, fun h b hb q hq => ⟨tab_nm h hb hq, tab_ld h hb hq⟩⟩
theorem boxO_ok (B : Nat) (cs : List Value) : (boxO B cs).Ok :=
  ⟨fun h k => ⟨k.1.block (h B (List.mem_singleton.2 rfl)), k.2⟩, fun h b hb => by obtain rfl := List.mem_singleton.1 hb; exact h.1.lt h.2, fun h b hb q hq => by obtain rfl := List.mem_singleton.1 hb; exact ⟨hold_nm h.1 h.2 hq, hold_ld h.1 h.2 hq⟩⟩
theorem mapO_ok {α : Type} (R : Value → Option (DataW Unit × List MemPlace)) (dat : α → DataW Unit) (z : α) (b n sz : Nat) (F : KK → Option α) : (mapO R dat z b n sz F).Ok :=
  ⟨fun h k => MapG.block k (h b (List.mem_singleton.2 rfl)), fun h c hc => by obtain rfl := List.mem_singleton.1 hc; exact MapG.lt h, fun h c hc q hq => by
    obtain rfl := List.mem_singleton.1 hc
    obtain ⟨D, ⟨es, clock, hm, _⟩, _⟩ := h
    rw [hm] at hq
    cases hq
    refine ⟨?_, ?_⟩
    · rintro ⟨q, h6⟩
      cases h6
    · rintro (⟨q, h6⟩ | ⟨q, h6⟩) <;> cases h6⟩
theorem rowO_ok (base e s : Nat) (v : Value) (n : Nat) (ys : List Value) : (rowO base e s v n ys).Ok :=
  ⟨fun h k => own_keep k (fun g hg => h g (by simp [rowO, hg])), fun h b hb => (World.ownsRow.lt h b (by simpa [rowO] using hb)).2, fun h b hb q hq => ⟨own_nm h (by simpa [rowO] using hb) hq, own_ld h (by simpa [rowO] using hb) hq⟩⟩
structure Sy (w X : World) (L : List Ob) : Prop where
  fr : Fr w X []
  ok : ∀ o ∈ L, o.Ok
  ho : ∀ o ∈ L, o.P X
  lo : ∀ o ∈ L, ∀ b ∈ o.bs, w.heap.size ≤ b
  dis : L.Pairwise (fun a b => ∀ x ∈ a.bs, x ∉ b.bs)
section
variable {w X Y : World} {L : List Ob}
theorem Sy.get (h : Sy w X L) (i : Nat) {o : Ob} (hi : L[i]? = some o) : o.P X := h.ho o (List.mem_of_getElem? hi)
theorem Sy.on (h : Sy w X L) (k : Below X.heap.size X Y) : Sy w Y L :=
  ⟨h.fr.on k, h.ok, fun o ho => (h.ok o ho).on (fun b hb => k.block b ((h.ok o ho).lt (h.ho o ho) b hb)) (h.ho o ho), h.lo, h.dis⟩
theorem Sy.add (h : Sy w X L) {o : Ob} (hok : o.Ok) (hP : o.P Y) (k : Below X.heap.size X Y) (hb : ∀ b ∈ o.bs, X.heap.size ≤ b) : Sy w Y (L ++ [o]) := by
  have h1 := h.on k
  refine ⟨h1.fr, fun q hq => ?_, fun q hq => ?_, fun q hq => ?_, ?_⟩
  · rcases List.mem_append.1 hq with h2 | h2
    · exact h.ok q h2
    · rw [List.mem_singleton.1 h2]; exact hok
  · rcases List.mem_append.1 hq with h2 | h2
    · exact h1.ho q h2
    · rw [List.mem_singleton.1 h2]; exact hP
  · rcases List.mem_append.1 hq with h2 | h2
    · exact h.lo q h2
    · rw [List.mem_singleton.1 h2]; exact fun b hm => Nat.le_trans h.fr.size (hb b hm)
  · rw [List.pairwise_append]
    refine ⟨h.dis, by simp, fun a ha c hc x hx hxc => ?_⟩
    rw [List.mem_singleton.1 hc] at hxc
    have h2 := (h.ok a ha).lt (h.ho a ha) x hx
    have h3 := hb x hxc
    omega
/-- One thing changes, in its blocks or in new ones. -/
theorem Sy.set (h : Sy w X L) (i : Nat) {o o' : Ob} (hi : L[i]? = some o) (hok : o'.Ok) (hP : o'.P Y) (hf : Fr X Y o.bs) (hb : ∀ b ∈ o'.bs, b ∈ o.bs ∨ X.heap.size ≤ b) : Sy w Y (L.set i o') := by
  obtain ⟨hlt, hi'⟩ := List.getElem?_eq_some_iff.1 hi
  have hmem : o ∈ L := List.mem_of_getElem? hi
  have apart : ∀ (j : Nat) (a : Ob), L[j]? = some a → j ≠ i → ∀ x ∈ a.bs, x ∉ o.bs := by
    intro j a hj hne x hx hxo
    obtain ⟨hjl, hj'⟩ := List.getElem?_eq_some_iff.1 hj
    rcases Nat.lt_or_gt_of_ne hne with h1 | h1
    · have := List.pairwise_iff_getElem.1 h.dis j i hjl hlt h1
      rw [hj', hi'] at this
      exact this x hx hxo
    · have := List.pairwise_iff_getElem.1 h.dis i j hlt hjl h1
      rw [hj', hi'] at this
      exact this x hxo hx
  have keep : ∀ (j : Nat) (a : Ob), L[j]? = some a → j ≠ i → a.P Y := fun j a hj hne =>
    (h.ok a (List.mem_of_getElem? hj)).on (fun b hm => hf.block b ((h.ok a (List.mem_of_getElem? hj)).lt (h.ho a (List.mem_of_getElem? hj)) b hm) (apart j a hj hne b hm)) (h.ho a (List.mem_of_getElem? hj))
  have each : ∀ q ∈ L.set i o', q = o' ∨ ∃ j, L[j]? = some q ∧ j ≠ i := by
    intro q hq
    obtain ⟨j, hj⟩ := List.getElem?_of_mem hq
    by_cases e : j = i
    · subst e
      rw [List.getElem?_set_self hlt] at hj
      exact .inl (Option.some.inj hj).symm
    · rw [List.getElem?_set_ne (fun e' => e e'.symm)] at hj
      exact .inr ⟨j, hj, e⟩
  refine ⟨h.fr.trans hf (fun b hm => .inr (h.lo o hmem b hm)), fun q hq => ?_, fun q hq => ?_, fun q hq => ?_, ?_⟩
  · rcases each q hq with rfl | ⟨j, hj, _⟩
    · exact hok
    · exact h.ok q (List.mem_of_getElem? hj)
  · rcases each q hq with rfl | ⟨j, hj, hne⟩
    · exact hP
    · exact keep j q hj hne
  · rcases each q hq with rfl | ⟨j, hj, hne⟩
    · intro b hm
      rcases hb b hm with h1 | h1
      · exact h.lo o hmem b h1
      · exact Nat.le_trans h.fr.size h1
    · exact h.lo q (List.mem_of_getElem? hj)
  · have far : ∀ (j : Nat) (a : Ob), L[j]? = some a → j ≠ i → ∀ x ∈ o'.bs, x ∉ a.bs := by
      intro j a hj hne x hx hxa
      rcases hb x hx with h1 | h1
      · exact apart j a hj hne x hxa h1
      · have := (h.ok a (List.mem_of_getElem? hj)).lt (h.ho a (List.mem_of_getElem? hj)) x hxa
        omega
    rw [List.pairwise_iff_getElem]
    intro p q hp hq hpq
    rw [List.length_set] at hp hq
    rw [List.getElem_set, List.getElem_set]
    by_cases e1 : i = p
    · subst e1
      rw [if_pos rfl, if_neg (by omega)]
      exact far q _ (List.getElem?_eq_getElem hq) (by omega)
    · rw [if_neg e1]
      by_cases e2 : i = q
      · subst e2
        rw [if_pos rfl]
        exact fun x hx hx' => far p _ (List.getElem?_eq_getElem hp) (by omega) x hx' hx
      · rw [if_neg e2]
        exact List.pairwise_iff_getElem.1 h.dis p q hp hq hpq
theorem Sy.left {M : List Ob} (h : Sy w X (L ++ M)) : Sy w X L :=
  ⟨h.fr, fun o ho => h.ok o (List.mem_append_left _ ho), fun o ho => h.ho o (List.mem_append_left _ ho), fun o ho => h.lo o (List.mem_append_left _ ho), (List.pairwise_append.1 h.dis).1⟩
theorem Sy.box (h : Sy w X L) (cs : List Value) (t : TypeId) (hc : 0 < cs.length) : Sy w (X.alloc (Obj.cells cs.toArray t)) (L ++ [boxO X.heap.size cs]) :=
  h.add (boxO_ok _ _) ⟨Holds.new X cs t, hc⟩ ((Below.refl _ _).alloc (Nat.le_refl _) _) (fun b hb => by rw [List.mem_singleton.1 hb]; exact Nat.le_refl _)
theorem Sy.grow {row : Option Nat} (h : Sy w X L) (hg : X.grownBy Y row) (hr : ∀ r, row = some r → w.heap.size ≤ r ∧ ∃ o : Obj, X.heap[r]? = some o ∧ NM o) : Sy w Y L := by
  have hf := grown_fr hg
  have hne : ∀ o ∈ L, ∀ b ∈ o.bs, b ∉ row.toList := by
    intro o ho b hb hm
    obtain ⟨h1, q, h2, h3⟩ := hr b (by simpa using hm)
    exact ((h.ok o ho).nm (h.ho o ho) b hb q h2).1 h3
  exact ⟨h.fr.trans hf (fun b hm => .inr (hr b (by simpa using hm)).1), h.ok, fun o ho => (h.ok o ho).on (fun b hb => hf.block b ((h.ok o ho).lt (h.ho o ho) b hb) (hne o ho b hb)) (h.ho o ho), h.lo, h.dis⟩
end
end Go.Proofs.YtmemceindohklaaDoor

/-! Xe -/
namespace Go.Proofs.YtmemceindohklaaDoor
open Go Go.Proofs Go.Maps Go.RowKit
set_option linter.unusedSimpArgs false
set_option linter.unusedVariables false
set_option maxHeartbeats 1000000
theorem next_live (T : TT) (m : Nat) : T.next m = T.live.find? (fun r => decide (m < r.n)) := by
  unfold TT.next TT.live
  rw [List.find?_filter]
  apply find_congr
  intro r hr
  simp only [after]
  by_cases h : m < r.n <;> cases r.gone <;> simp [h]
theorem live_rise {T : TT} {W : World} (h : T.Is W) : T.live.Pairwise (fun a b => a.n < b.n) := List.Pairwise.filter _ h.rise
theorem find_atN {l : List RR} (hp : l.Pairwise (fun a b => a.n < b.n)) {j : Nat} (hj : j < l.length) : l.find? (fun r => decide (l[j].n < r.n)) = l[j + 1]? := by
  rw [List.pairwise_iff_getElem] at hp
  by_cases hj1 : j + 1 < l.length
  · rw [List.getElem?_eq_getElem hj1, List.find?_eq_some_iff_getElem]
    refine ⟨by simpa using hp j (j + 1) hj hj1 (by omega), j + 1, hj1, rfl, fun i hi => ?_⟩
    rcases Nat.lt_or_ge i j with h1 | h1
    · have := hp i j (by omega) hj h1
      simp
      omega
    · obtain rfl : i = j := by omega
      simp
  · rw [List.getElem?_eq_none (by omega), List.find?_eq_none]
    intro r hr
    obtain ⟨i, hi, rfl⟩ := List.getElem_of_mem hr
    rcases Nat.lt_or_ge i j with h1 | h1
    · have := hp i j hi hj h1
      simp
      omega
    · obtain rfl : i = j := by omega
      simp
/-- Number m stands at place j: what comes next is the row at place j. -/
def AtN (T : TT) (j m : Nat) : Prop := T.next m = T.live[j]?
theorem AtN.zero {T : TT} {W : World} (h : T.Is W) : AtN T 0 0 := by
  unfold AtN
  rw [next_live]
  cases hl : T.live with
  | nil => rfl
  | cons r t =>
    have hr : r ∈ T.rows := (List.mem_filter.1 (show r ∈ T.live by rw [hl]; exact List.mem_cons_self)).1
    have := (h.num r hr).1
    rw [List.find?_cons_of_pos (by simp; omega)]
    rfl
theorem AtN.step {T : TT} {W : World} (h : T.Is W) {j : Nat} (hj : j < T.live.length) : AtN T (j + 1) T.live[j].n := by
  unfold AtN
  rw [next_live]
  exact find_atN (live_rise h) hj
theorem neqKK (k : KK) (w : World) : (binOp .neq 34 k.agg k.agg).run Tryd.prog w = .ok (.bool false) w := by
  unfold KK.agg
  have ht : Tryd.prog.underlying 34 = some (.struct (Tryd.prog.fieldsOf 34)) := by kernel_rfl
  rw [run_neq_struct, show (10000 : Nat) = 9998 + 1 + 1 from rfl, run_equalIn_struct _ _ _ _ _ ht (by kernel_rfl)]
  have hf : Tryd.prog.fieldsOf 34 = (match Tryd.prog.underlying 34 with | some (.struct f) => f | _ => #[]) := by kernel_rfl
  rw [hf, Tryd.underlying34]
  simp [Op.eqFields, go_sem, part]
theorem ex_neqKK {o : Oper} {a : Act} {w : World} {x y : Operand} (k : KK) (ho : o.op = .binOp .neq 34 x y 34) (hx : a.eval x = k.agg) (hy : a.eval y = k.agg) : (execOp a.eval o).run Tryd.prog w = .ok (.value (.bool false)) w := by
  have e := neqKK k w
  have e2 : (eqGuard .neq 34 x y k.agg k.agg).run Tryd.prog w = .ok () w := by kernel_rfl
  unfold execOp
  simp only [ho, hx, hy]
  simp [e, e2]
theorem range_two {σ α : Type} {F : Fence} {n : Nat} {g : Operand} {ps : Array Tmp} {assign body : Code} {Q : Exit → Act → World → Prop} {a : Act} {w : World}
    (hro : F.round = none) (h1 : 1 ≤ n) {gf : Nat} {lb : Array Value} (hg : a.eval g = .func (.func gf) #[] lb) (hFg : F.fn gf) (eg : ∀ args w, (callFunc gf args).run Tryd.prog w = .ok (.enter gf args) w)
    {encs : α → Array Value} {Tab : σ → World → Prop} {V : σ → α → Prop} {nx : σ → α → σ → Prop} {Fin : σ → Prop} {s0 : σ} {w0 : World} (hseq : SeqBy F (n - 1) Tryd.prog gf lb encs Tab V nx Fin s0 w0) (hb0 : Below w0.heap.size w0 w) (hps : ∀ x, (encs x).size = ps.size)
    (I : σ → World → Prop) (Ix : Code → World → Prop) (hIT : ∀ s X, I s X → Tab s X) (hI : OwnL w.heap.size I) (hIx : ∀ c, OwnL w.heap.size (fun (_ : Unit) W => Ix c W)) (h0 : I s0 w) (d e : Tmp) (f h : α → List Value) (hfl : ∀ x, 0 < (f x).length) (hhl : ∀ x, 0 < (h x).length)
    (hassign : ∀ (l : Nat) (s : σ) (x : α) (W : World) (K : Act → World → Prop), I s W → V s x → (∀ B C Y, KL W Y → I s Y → Holds Y B (f x) → Holds Y C (h x) → K { tmps := (((ps.zip (encs x)).foldl (fun t (p, v) => t.setIfInBounds p v) a.tmps).setIfInBounds d (.pointer (some ⟨B, 0, none⟩))).setIfInBounds e (.pointer (some ⟨C, 0, none⟩)), defers := [] } Y) →
      assign.wpIn (F.inRound l) (n - 1 - 1) Tryd.prog (Exit.then K (fun _ _ _ => False)) { tmps := (ps.zip (encs x)).foldl (fun t (p, v) => t.setIfInBounds p v) a.tmps, defers := [] } W)
    (hbody : ∀ (l : Nat) (s : σ) (x : α) (B C : Nat) (W : World), w.heap.size ≤ l → I s W → V s x → Holds W B (f x) → Holds W C (h x) → body.wpIn (F.inRound l) (n - 1 - 1) Tryd.prog (byPost w.heap.size I Ix nx s x W) { tmps := (((ps.zip (encs x)).foldl (fun t (p, v) => t.setIfInBounds p v) a.tmps).setIfInBounds d (.pointer (some ⟨B, 0, none⟩))).setIfInBounds e (.pointer (some ⟨C, 0, none⟩)), defers := [] } W)
    (hdone : ∀ (D : Nat) (s : σ) (W : World), w.heap.size ≤ D → Fin s → I s W → W.heap[D]? = some (.deferred (some [])) → Q .normal { a with defers := { target := .collected D, args := #[] } :: a.defers } W)
    (hstop : ∀ (D : Nat) (c : Code) (W : World), w.heap.size ≤ D → Ix c W → W.heap[D]? = some (.deferred (some [])) → c.wpIn F n Tryd.prog Q { a with defers := { target := .collected D, args := #[] } :: a.defers } W) :
    (Code.rangeFunc g ps assign body).wpIn F n Tryd.prog Q a w := by
  refine range_by hro h1 hg hFg eg hseq hb0 hps I Ix hIT hI hIx h0 (fun x a' W => ∃ B C, a' = { tmps := (((ps.zip (encs x)).foldl (fun t (p, v) => t.setIfInBounds p v) a.tmps).setIfInBounds d (.pointer (some ⟨B, 0, none⟩))).setIfInBounds e (.pointer (some ⟨C, 0, none⟩)), defers := [] } ∧ Holds W B (f x) ∧ Holds W C (h x)) ?_ ?_ ?_ hdone hstop
  · intro x a' _ A B row hs hgr hr
    obtain ⟨C, D, h2, h3, h4⟩ := hs
    exact ⟨C, D, h2, holds_own h3 (hfl x) hgr (fun r e => (hr r e).2), holds_own h4 (hhl x) hgr (fun r e => (hr r e).2)⟩
  · intro l s x W K hi hv hk
    exact hassign l s x W K hi hv (fun B C Y h2 h3 h4 h5 => hk _ Y h2 h3 ⟨B, C, rfl, h4, h5⟩)
  · rintro l s x a' W hl hi hv ⟨B, C, rfl, hH, hG⟩
    exact hbody l s x B C W hl hi hv hH hG
end Go.Proofs.YtmemceindohklaaDoor

/-! Xf -/
namespace Go.Proofs.YtmemceindohklaaDoor
open Go Go.Proofs Go.Maps Go.RowKit
set_option linter.unusedSimpArgs false
set_option linter.unusedVariables false
set_option maxHeartbeats 1000000
def RetN (fn : Func) (n : Nat) (R : Ending → World → Prop) : Exit → Act → World → Prop
  | .normal, a, w | .ret, a, w => LeavesInM Fence.wide n Tryd.prog fn a.tmps R a.defers .returning w
  | _, _, _ => False
theorem retN_post {fn : Func} {n : Nat} {R : Ending → World → Prop} : ∀ (e : Exit) (a : Act) (w : World), RetN fn n R e a w → bodyPostM Fence.wide n Tryd.prog fn R e a w
  | .normal, _, _, h => h
  | .ret, _, _, h => h
  | .panic _, _, _, h => h.elim
  | .outgrown, _, _, h => h.elim
  | .exit _, _, _, h => h.elim
  | .goto _, _, _, h => h.elim
theorem rangeAt_eqN {w X : World} {b p : Nat} {cs : List Value} (h : w.rangeAt b p cs) (he : X.heap[b]? = w.heap[b]?) : X.rangeAt b p cs := fun j v hv => (World.cell?_of_block he).trans (h j v hv)
/-- In the first loop: the table, the book, and the box of the answer. -/
structure M1 (w X : World) (T : TT) (t0 mb nb B2 : Nat) (F : KK → Option DD) : Prop where
  mw : MW w X T t0 mb nb F
  box : Holds X B2 [.bool false]
  d1 : B2 ∉ T.blocks
  d2 : B2 ≠ mb
  lo : w.heap.size ≤ B2
theorem ex_mm32 {o : Oper} {a : Act} {w : World} (ho : o.op = .makeMap 32 none) : (execOp a.eval o).run Tryd.prog w = .ok (.value (.map (some w.heap.size))) (w.alloc (.map #[] 0)) := by
  have e : (Instr.makeMap 32 none).run Tryd.prog w = .ok (.map (some w.heap.size)) (w.alloc (.map #[] 0)) := by kernel_rfl
  unfold execOp
  simp only [ho]
  simp [e]
theorem M1.on {w X Y : World} {T : TT} {t0 mb nb B2 : Nat} {F : KK → Option DD} (h : M1 w X T t0 mb nb B2 F) (k : Below X.heap.size X Y) : M1 w Y T t0 mb nb B2 F :=
  ⟨h.mw.on k, h.box.block (k.block B2 (h.box.lt (Nat.succ_pos _))), h.d1, h.d2, h.lo⟩
/-- The table went on, the book is as it was. -/
structure M2 (w X : World) (T T' : TT) (t0 mb nb B2 : Nat) (F : KK → Option DD) : Prop where
  mu : MU w X T T' t0 mb nb F
  box : Holds X B2 [.bool false]
  d1 : B2 ∉ T'.blocks
  d2 : B2 ≠ mb
  lo : w.heap.size ≤ B2
theorem M2.on {w X Y : World} {T T' : TT} {t0 mb nb B2 : Nat} {F : KK → Option DD} (h : M2 w X T T' t0 mb nb B2 F) (k : Below X.heap.size X Y) : M2 w Y T T' t0 mb nb B2 F :=
  ⟨h.mu.on k, h.box.block (k.block B2 (h.box.lt (Nat.succ_pos _))), h.d1, h.d2, h.lo⟩
theorem M1.step {w X Y : World} {T T' : TT} {t0 mb nb B2 : Nat} {F : KK → Option DD} (h : M1 w X T t0 mb nb B2 F) (hT : T'.Is Y) (ht : T'.t = T.t) (hf : Fr X Y T.blocks) (hb : ∀ b ∈ T'.blocks, b ∈ T.blocks ∨ X.heap.size ≤ b) : M2 w Y T T' t0 mb nb B2 F :=
  ⟨h.mw.step hT ht hf hb, h.box.block (hf.block B2 (h.box.lt (Nat.succ_pos _)) h.d1), fun hm => by
    rcases hb B2 hm with h1 | h1
    · exact h.d1 h1
    · have := h.box.lt (Nat.succ_pos _); omega, h.d2, h.lo⟩
theorem M2.same {w X : World} {T T' : TT} {t0 mb nb B2 : Nat} {F : KK → Option DD} (h : M2 w X T T' t0 mb nb B2 F) (hl : T'.live = T.live) (ha : abs T' = abs T) : M1 w X T' t0 mb nb B2 F :=
  ⟨h.mu.same hl ha, h.box, h.d1, h.d2, h.lo⟩
theorem res4 {X : World} {B2 : Nat} {b : Bool} {tmps : Array Value} (h : Holds X B2 [.bool b]) (hx : tmps.getD 2 undef = .pointer (some ⟨B2, 0, none⟩)) : (results Tryd.f4 tmps).run Tryd.prog X = .ok (.bool b) X := by
  have h0 := h.cell 0 (v := .bool b) rfl
  have hl : (loadVar 4 ⟨B2, 0, none⟩).run Tryd.prog X = .ok (.bool b) X := by simp [loadVar, Tryd.isAgg4, h0, go_sem]
  simp only [Array.getD_eq_getD_getElem?] at hx
  unfold results
  simp [show Tryd.f4.results = #[.cell 2 4] from rfl, hx, hl, asAddr]
theorem act_rK {X : World} {b p : Nat} {kd : Int} {k : KK} {d : DD} {n : Int} {v : Value} (h : X.rangeAt b p (actCs kd k d n v)) : X.rangeAt b (p + 1) k.cs := range_left (range_right (a := [.int .i64 kd]) h)
theorem act_rD {X : World} {b p : Nat} {kd : Int} {k : KK} {d : DD} {n : Int} {v : Value} (h : X.rangeAt b p (actCs kd k d n v)) : X.rangeAt b (p + 3) d.cs := range_left (range_right (a := k.cs) (range_right (a := [.int .i64 kd]) h))
theorem ex_eqZ {o : Oper} {a : Act} {w : World} {x y : Operand} {n m : Int} {r : Bool} (ho : o.op = .binOp .eql 3 x y 3) (hx : a.eval x = .int .i64 n) (hy : a.eval y = .int .i64 m) (h : (n == m) = r) : (execOp a.eval o).run Tryd.prog w = .ok (.value (.bool r)) w := by
  unfold execOp
  simp only [ho, hx, hy]
  simp [go_sem, eqGuard, h]
theorem ex_updD {o : Oper} {a : Act} {X Y : World} {m x y : Operand} {mb : Nat} {k : KK} {d : DD} (ho : o.op = .mapUpdate 32 m x y) (hm : a.eval m = .map (some mb)) (hx : a.eval x = k.agg) (hy : a.eval y = d.agg) (h : (Instr.mapUpdate 32 (.map (some mb)) k.agg d.agg).run Tryd.prog X = .ok () Y) : (execOp a.eval o).run Tryd.prog X = .ok .skip Y := by
  unfold execOp
  simp only [ho, hm, hx, hy]
  simp [h]
theorem ex_delD {o : Oper} {a : Act} {X Y : World} {m x : Operand} {mb : Nat} {k : KK} (ho : o.op = .call { callee := .builtin .delete, args := #[m, x], argTypes := #[32, 34] }) (hm : a.eval m = .map (some mb)) (hx : a.eval x = k.agg) (h : (Builtin.delete_ #[32, 34] o.type #[.map (some mb), k.agg]).run Tryd.prog X = .ok (.tuple #[]) Y) : (execOp a.eval o).run Tryd.prog X = .ok (.value (.tuple #[])) Y := by
  simp [execOp, ho, resolve, invoke, builtin, hm, hx, h, Result.andThen]
theorem put_badN {T T' : TT} {W : World} {k : KK} {d : DD} (hT : T.Is W) (hP : PutT T k d T') (hg : goodK k = false) : T' = T := by
  rcases hP with ⟨r, g1, -⟩ | ⟨-, g2, -⟩ | ⟨-, -, g3⟩
  · rw [bad_put (d := d) hT hg] at g1
    cases g1
  · rw [hg] at g2
    cases g2
  · exact g3
theorem M1.put {w X : World} {T : TT} {t0 mb nb B2 : Nat} {F : KK → Option DD} {k : KK} {d : DD} (h : M1 w X T t0 mb nb B2 F) (hU : Lib.Utf8Tabs 4 5 w) (hk : OkK k) (hl : T.last < 1000000) : Calls Tryd.prog 12 #[.pointer (some ⟨t0, 0, none⟩), k.agg, d.agg] X fun e Y => e = .returned (.int .i64 (if goodK k then 0 else 5)) ∧ ∃ T' : TT, M2 w Y T T' t0 mb nb B2 F ∧ PutT T k d T' := by
  have e := h.mw.tt
  subst e
  refine (put12 T k d X h.mw.tis (tabs_below hU h.mw.fr.below) hk hl (fun b hb => Nat.le_trans (tabs_size hU) (h.mw.nw b hb))).mono ?_
  rintro e Y ⟨rfl, T', g1, g2, g3, g4, g5⟩
  exact ⟨rfl, T', h.step g1 g2 g3 g4, g5⟩
theorem M1.del {w X : World} {T : TT} {t0 mb nb B2 : Nat} {F : KK → Option DD} {k : KK} (h : M1 w X T t0 mb nb B2 F) (hk : OkK k) (hl : T.last < 100000) : Calls Tryd.prog 13 #[.pointer (some ⟨t0, 0, none⟩), k.agg] X fun e Y => e = .returned (.bool (T.find k).isSome) ∧ ∃ T' : TT, M2 w Y T T' t0 mb nb B2 F ∧ abs T' = (abs T).del k ∧ T'.last = T.last := by
  have e := h.mw.tt
  subst e
  refine (delete14 T k X h.mw.tis hk hl).mono ?_
  rintro e Y ⟨rfl, T', g1, g2, g3, g4, g5, g6⟩
  exact ⟨rfl, T', h.step g1 g2 g4 g5, abs_del g6 g3, g3⟩
theorem M1.clear {w X : World} {T : TT} {t0 mb nb B2 : Nat} {F : KK → Option DD} (h : M1 w X T t0 mb nb B2 F) : Calls Tryd.prog 14 #[.pointer (some ⟨t0, 0, none⟩)] X fun e Y => e = .returned (.tuple #[]) ∧ ∃ T' : TT, M2 w Y T T' t0 mb nb B2 F ∧ T'.live = [] ∧ T'.last = T.last := by
  have e := h.mw.tt
  subst e
  refine (clear16 T X h.mw.tis).mono ?_
  rintro e Y ⟨rfl, T', g1, g2⟩
  exact ⟨rfl, T', h.step g1.is g1.t g1.fr g1.new, g2, g1.last⟩
theorem M1.compact {w X : World} {T : TT} {t0 mb nb B2 : Nat} {F : KK → Option DD} (h : M1 w X T t0 mb nb B2 F) (hl : T.last < 100000) : Calls Tryd.prog 15 #[.pointer (some ⟨t0, 0, none⟩)] X fun e Y => e = .returned (.tuple #[]) ∧ ∃ T' : TT, M1 w Y T' t0 mb nb B2 F ∧ T'.last = T.last := by
  have e := h.mw.tt
  subst e
  refine (compact18 T X h.mw.tis hl).mono ?_
  rintro e Y ⟨rfl, m, rv, g1, g2, g3⟩
  refine ⟨rfl, T.packed m rv, (h.step g1 rfl (g2.mono (fun b hb => .inl (by obtain rfl : b = T.t := (by simpa using hb); simp [TT.blocks]))) g3).same (TT.packed_live ..) (abs_same (TT.packed_live ..) rfl), rfl⟩
theorem M2.put {w X : World} {T T' : TT} {t0 mb nb B2 : Nat} {F : KK → Option DD} {k : KK} {d : DD} {W : World} (h : M2 w X T T' t0 mb nb B2 F) (hT : T.Is W) (hP : PutT T k d T') (hg : goodK k = true) (hn : nb < maxLen) :
    ∃ Y, (Instr.mapUpdate 32 (.map (some mb)) k.agg d.agg).run Tryd.prog X = .ok () Y ∧ M1 w Y T' t0 mb (nb + 1) B2 (putG F k (some d)) ∧ Fr X Y [mb] := by
  obtain ⟨Y, h1, h2, h3⟩ := h.mu.put hT hP hg hn
  exact ⟨Y, h1, ⟨h2, h.box.block (h3.block B2 (h.box.lt (Nat.succ_pos _)) (by simpa using h.d2)), h.d1, h.d2, h.lo⟩, h3⟩
theorem M2.del {w X : World} {T T' : TT} {t0 mb nb B2 : Nat} {F : KK → Option DD} {k : KK} {W : World} (h : M2 w X T T' t0 mb nb B2 F) (hT : T.Is W) (ha : abs T' = (abs T).del k) (hk : OkK k) (ty : TypeId) :
    ∃ Y, (Builtin.delete_ #[32, 34] ty #[.map (some mb), k.agg]).run Tryd.prog X = .ok (.tuple #[]) Y ∧ M1 w Y T' t0 mb nb B2 (putG F k none) ∧ Fr X Y [mb] := by
  obtain ⟨Y, h1, h2, h3⟩ := h.mu.del hT ha hk ty
  exact ⟨Y, h1, ⟨h2, h.box.block (h3.block B2 (h.box.lt (Nat.succ_pos _)) (by simpa using h.d2)), h.d1, h.d2, h.lo⟩, h3⟩
theorem M2.clear {w X : World} {T T' : TT} {t0 mb nb B2 : Nat} {F : KK → Option DD} (h : M2 w X T T' t0 mb nb B2 F) (hl : T'.live = []) : M1 w (X.alloc (.map #[] 0)) T' t0 X.heap.size 0 B2 (fun _ => none) := by
  have bl : Below X.heap.size X (X.alloc (Obj.map #[] 0)) := (Below.refl _ _).alloc (Nat.le_refl _) _
  have hlt := h.box.lt (Nat.succ_pos _)
  exact ⟨h.mu.clear hl, h.box.block (bl.block B2 hlt), h.d1, fun e => by omega, h.lo⟩
theorem M1.sy {w X : World} {T : TT} {t0 mb nb B2 : Nat} {F : KK → Option DD} (h : M1 w X T t0 mb nb B2 F) : Sy w X [tabO T, mapO dR dD zerD mb nb T.live.length F, boxO B2 [.bool false]] := by
  refine ⟨h.mw.fr, fun o ho => ?_, fun o ho => ?_, fun o ho => ?_, ?_⟩
  · rcases List.mem_cons.1 ho with rfl | ho
    · exact tabO_ok T
    · rcases List.mem_cons.1 ho with rfl | ho
      · exact mapO_ok ..
      · rw [List.mem_singleton.1 ho]; exact boxO_ok ..
  · rcases List.mem_cons.1 ho with rfl | ho
    · exact h.mw.tis
    · rcases List.mem_cons.1 ho with rfl | ho
      · exact h.mw.map
      · rw [List.mem_singleton.1 ho]; exact ⟨h.box, Nat.succ_pos _⟩
  · rcases List.mem_cons.1 ho with rfl | ho
    · exact h.mw.nw
    · rcases List.mem_cons.1 ho with rfl | ho
      · intro b hb; rw [List.mem_singleton.1 hb]; exact h.mw.nm
      · rw [List.mem_singleton.1 ho]; intro b hb; rw [List.mem_singleton.1 hb]; exact h.lo
  · simp only [List.pairwise_cons, List.mem_cons, List.mem_singleton, tabO, mapO, boxO]
    refine ⟨?_, ?_, by simp⟩
    · rintro a (rfl | rfl | h0)
      · exact fun x hx hm => h.mw.dis (by rw [← List.mem_singleton.1 hm]; exact hx)
      · exact fun x hx hm => h.d1 (by rw [← List.mem_singleton.1 hm]; exact hx)
      · cases h0
    · rintro a (rfl | h0)
      · intro x hx hm
        have e1 : x = mb := by simpa using hx
        have e2 : x = B2 := by simpa using hm
        exact h.d2 (e2.symm.trans e1)
      · cases h0
section
variable {ops : Array Oper} {rest : List Oper} {Q : Exit → Act → World → Prop} {w X : World} {a : Act} {o : Oper} {L : List Ob}
theorem alS {v : Value} (t : TypeId) (cs : List Value) (hw : Region.wanted o (yielded ops a.tmps) = true) (ho : o.op = .alloc t) (hz : ∀ w, (zeroValue t).run Tryd.prog w = .ok v w) (hv : v.cells.toList = cs) (hc : 0 < cs.length) (hL : Sy w X L)
    (h : ∀ Y B, w.heap.size ≤ B → Sy w Y (L ++ [boxO B cs]) → wpList Tryd.prog ops Q rest (a.put o.dst (.pointer (some ⟨B, 0, none⟩))) Y) : wpList Tryd.prog ops Q (o :: rest) a X := by
  have ev : v.cells = cs.toArray := by rw [← hv]
  have he : (execOp a.eval o).run Tryd.prog X = .ok (.value (.pointer (some ⟨X.heap.size, 0, none⟩))) (X.alloc (Obj.cells cs.toArray t)) := by
    unfold execOp
    simp only [ho]
    simp [go_sem, hz]
    show X.alloc (Obj.cells v.cells t) = _
    rw [ev]
  exact vl hw he (h _ _ hL.fr.size (hL.box cs t hc))
theorem stS {b p : Nat} {cs vs : List Value} {v : Value} {x y : Operand} (i : Nat) (t : TypeId) (hw : Region.wanted o (yielded ops a.tmps) = true) (ho : o.op = .store t x y) (hx : a.eval x = .pointer (some ⟨b, p, none⟩)) (hy : a.eval y = v) (hv : v.cells.toList = vs) (h1 : ∀ u ∈ vs, u.oneCell' = true) (hi : (Tryd.prog.info? t).map (·.size) = some vs.length) (hL : Sy w X L) (hl : L[i]? = some (boxO b cs)) (hp : p + vs.length ≤ cs.length)
    (h : ∀ Y, Sy w Y (L.set i (boxO b (cput cs p vs))) → Fr X Y [b] → wpList Tryd.prog ops Q rest (a.put o.dst undef) Y) : wpList Tryd.prog ops Q (o :: rest) a X := by
  have hg := hL.get i hl
  have hc : 0 < (cput cs p vs).length := by
    have h2 := hg.2
    unfold cput
    simp
    omega
  exact skv hw (ex_store ho hx hy hv h1 hi hg.1 hp) (h _ (hL.set i hl (boxO_ok _ _) ⟨hg.1.put p vs hp, hc⟩ (Fr.setCells X b p vs) (fun c hc => .inl hc)) (Fr.setCells X b p vs))
end
end Go.Proofs.YtmemceindohklaaDoor

/-! Xg -/
namespace Go.Proofs.YtmemceindohklaaDoor
open Go Go.Proofs Go.Maps Go.RowKit
set_option linter.unusedSimpArgs false
set_option linter.unusedVariables false
set_option maxHeartbeats 1000000
theorem zip2N (p1 p2 : Tmp) (v1 v2 : Value) (t : Array Value) : ((#[p1, p2] : Array Tmp).zip #[v1, v2]).foldl (fun t (x : Tmp × Value) => t.setIfInBounds x.1 x.2) t = (t.setIfInBounds p1 v1).setIfInBounds p2 v2 := by simp
/-- In the walk. -/
def IW (w : World) (Ls : Nat → List Ob) (T : TT) (s : WS) (W : World) : Prop := ∃ nn, Sy w W (Ls nn) ∧ s.T = T ∧ nn ≤ T.live.length ∧ AtN T nn s.m ∧ s.m ≤ T.last ∧ s.left + nn = T.live.length + 1 ∧ (s.rb = none ∨ ∃ r ∈ T.rows, s.rb = some r.b ∧ s.m = r.n)
theorem walk_end {T : TT} {nn m : Nat} (h : AtN T nn m) (hn : T.next m = none) (hl : nn ≤ T.live.length) : nn = T.live.length := by
  rcases Nat.lt_or_ge nn T.live.length with h2 | h2
  · have h3 := h.symm.trans hn
    rw [List.getElem?_eq_getElem h2] at h3
    cases h3
  · omega
theorem IW.tab {w : World} {Ls : Nat → List Ob} {T : TT} {t0 Bn : Nat} {s : WS} {W : World} (h : IW w Ls T s W) (h0 : ∀ n, (Ls n)[0]? = some (tabO T)) (h6 : ∀ n, (Ls n)[6]? = some (boxO Bn [.pointer (some ⟨t0, 0, none⟩)])) (ht : T.t = t0) (hl : T.last < 1000000) : WTab t0 Bn s W := by
  obtain ⟨nn, g1, rfl, g3, g4, g5, g6, g7⟩ := h
  have hT : s.T.Is W := g1.get 0 (h0 nn)
  refine ⟨hT, ht, hl, g5, (g1.get 6 (h6 nn)).1.cell 0 rfl, fun b hb => ?_⟩
  rcases g7 with h8 | ⟨r, h8, h9, h10⟩
  · rw [h8] at hb
    cases hb
  · rw [h9] at hb
    cases hb
    rw [h10]
    exact num_cell (hT.rows r h8)
theorem IW.own {w : World} {Ls : Nat → List Ob} {T : TT} {B : Nat} (hB : w.heap.size ≤ B) : OwnL B (IW w Ls T) := fun s X Y row ⟨nn, g1, g2⟩ hg hr => ⟨nn, g1.grow hg (fun r e => ⟨Nat.le_trans hB (hr r e).1, (hr r e).2⟩), g2⟩
theorem IW.on {w : World} {Ls : Nat → List Ob} {T : TT} {s : WS} {X Y : World} (h : IW w Ls T s X) (k : Below X.heap.size X Y) : IW w Ls T s Y := by
  obtain ⟨nn, g1, g2⟩ := h
  exact ⟨nn, g1.on k, g2⟩
theorem rowAtN {X : World} {base n vc : Nat} {VA : Option Addr} {T : TT} (h : X.ownsRow base 54 20 (.slice VA n vc) n (flatP (T.live.map RR.pr))) (hn : n = T.live.length) {j : Nat} {r : RR} (hj : T.live[j]? = some r) : ∃ g, VA = some ⟨g, 0, none⟩ := by
  obtain ⟨hlt, -⟩ := List.getElem?_eq_some_iff.1 hj
  rcases h.2 with ⟨-, h0⟩ | ⟨g, cap, cur, h1, -, -, -⟩
  · omega
  · obtain ⟨rfl, -⟩ : VA = some ⟨g, 0, none⟩ ∧ _ := by simpa using h1
    exact ⟨g, rfl⟩
theorem rowRN {X : World} {base g n vc : Nat} {T : TT} (h : X.ownsRow base 54 20 (.slice (some ⟨g, 0, none⟩) n vc) n (flatP (T.live.map RR.pr))) (hn : n = T.live.length) {j : Nat} {r : RR} (hj : T.live[j]? = some r) : X.rangeAt g (0 + j * 20) (r.k.cs ++ r.d.cs) := by
  obtain ⟨hlt, he⟩ := List.getElem?_eq_some_iff.1 hj
  have h2 := own_rows (f := fun x : KK × DD => x.1.cs ++ x.2.cs) (fun x => rfl) h j (by simpa using hlt)
  simp only [List.getElem_map, he] at h2
  simpa [RR.pr] using h2
theorem ex_geN {o : Oper} {a : Act} {w : World} {x y : Operand} {n m : Int} {r : Bool} (ho : o.op = .binOp .geq 3 x y 3) (hx : a.eval x = .int .i64 n) (hy : a.eval y = .int .i64 m) (h : decide (m ≤ n) = r) : (execOp a.eval o).run Tryd.prog w = .ok (.value (.bool r)) w := by
  unfold execOp
  simp only [ho, hx, hy]
  simp [go_sem, eqGuard, h]
theorem ex_addN {o : Oper} {a : Act} {w : World} {x y : Operand} {n : Nat} (ho : o.op = .binOp .add 3 x y 3) (hx : a.eval x = .int .i64 (n : Nat)) (hy : a.eval y = .int .i64 1) (h : n < 1000000) : (execOp a.eval o).run Tryd.prog w = .ok (.value (.int .i64 ((n + 1 : Nat) : Int))) w := by
  have hw : IntKind.i64.wrap ((n : Int) + 1) = (n : Int) + 1 := by rw [IntKind.wrap_i64]; omega
  unfold execOp
  simp only [ho, hx, hy]
  simp [go_sem, eqGuard, hw]
theorem Sy.kl {w X Y : World} {L : List Ob} {i : Nat} {o : Ob} (h : Sy w X L) (hi : L[i]? = some o) (hf : Fr X Y o.bs) : KL X Y := kl_fr hf (fun b hb q hq => ((h.ok o (List.mem_of_getElem? hi)).nm (h.get i hi) b hb q hq).2)
theorem Sy.putB {w X : World} {L : List Ob} (h : Sy w X L) (i : Nat) {B : Nat} {cs : List Value} (hi : L[i]? = some (boxO B cs)) (p : Nat) (vs : List Value) (hp : p + vs.length ≤ cs.length) : Sy w (X.setCells B p vs) (L.set i (boxO B (cput cs p vs))) := by
  have hg := h.get i hi
  have hc : 0 < (cput cs p vs).length := by
    have h2 := hg.2
    unfold cput
    simp
    omega
  exact h.set i hi (boxO_ok _ _) ⟨hg.1.put p vs hp, hc⟩ (Fr.setCells X B p vs) (fun c hc => .inl hc)
theorem unRw : Tryd.prog.underlying 25 = some (.slice (Tryd.prog.elem 25)) := by kernel_rfl
theorem idRw : ∀ w, (sizeOf (Tryd.prog.elem 25)).run Tryd.prog w = .ok 20 w := fun w => by kernel_rfl
/-- Beside it, the marks of ranges that have ended. -/
structure SyM (w X : World) (L : List Ob) (D : Nat) : Prop where
  sy : Sy w X L
  dk : X.heap[D]? = some (.deferred (some []))
  lo : w.heap.size ≤ D
theorem SyM.on {w X Y : World} {L : List Ob} {D : Nat} (h : SyM w X L D) (k : Below X.heap.size X Y) : SyM w Y L D := ⟨h.sy.on k, (k.block D (Array.getElem?_eq_some_iff.1 h.dk).1).trans h.dk, h.lo⟩
theorem SyM.get {w X : World} {L : List Ob} {D : Nat} (h : SyM w X L D) (i : Nat) {o : Ob} (hi : L[i]? = some o) : o.P X := h.sy.get i hi
theorem SyM.set {w X Y : World} {L : List Ob} {D : Nat} (h : SyM w X L D) (i : Nat) {o o' : Ob} (hi : L[i]? = some o) (hok : o'.Ok) (hP : o'.P Y) (hf : Fr X Y o.bs) (hb : ∀ b ∈ o'.bs, b ∈ o.bs ∨ X.heap.size ≤ b) : SyM w Y (L.set i o') D :=
  ⟨h.sy.set i hi hok hP hf hb, (hf.block D (Array.getElem?_eq_some_iff.1 h.dk).1 (fun hm => ((h.sy.ok o (List.mem_of_getElem? hi)).nm (h.sy.get i hi) D hm _ h.dk).2 (.inr ⟨_, rfl⟩))).trans h.dk, h.lo⟩
theorem SyM.add {w X Y : World} {L : List Ob} {D : Nat} (h : SyM w X L D) {o : Ob} (hok : o.Ok) (hP : o.P Y) (k : Below X.heap.size X Y) (hb : ∀ b ∈ o.bs, X.heap.size ≤ b) : SyM w Y (L ++ [o]) D := ⟨h.sy.add hok hP k hb, (h.on k).dk, h.lo⟩
theorem SyM.left {w X : World} {L M : List Ob} {D : Nat} (h : SyM w X (L ++ M) D) : SyM w X L D := ⟨h.sy.left, h.dk, h.lo⟩
theorem SyM.box {w X : World} {L : List Ob} {D : Nat} (h : SyM w X L D) (cs : List Value) (t : TypeId) (hc : 0 < cs.length) : SyM w (X.alloc (Obj.cells cs.toArray t)) (L ++ [boxO X.heap.size cs]) D := ⟨h.sy.box cs t hc, (h.on ((Below.refl _ _).alloc (Nat.le_refl _) _)).dk, h.lo⟩
theorem SyM.putB {w X : World} {L : List Ob} {D : Nat} (h : SyM w X L D) (i : Nat) {B : Nat} {cs : List Value} (hi : L[i]? = some (boxO B cs)) (p : Nat) (vs : List Value) (hp : p + vs.length ≤ cs.length) : SyM w (X.setCells B p vs) (L.set i (boxO B (cput cs p vs))) D := by
  have hg := h.sy.get i hi
  have hc : 0 < (cput cs p vs).length := by
    have h2 := hg.2
    unfold cput
    simp
    omega
  exact h.set i hi (boxO_ok _ _) ⟨hg.1.put p vs hp, hc⟩ (Fr.setCells X B p vs) (fun c hc => .inl hc)
section
variable {ops : Array Oper} {rest : List Oper} {Q : Exit → Act → World → Prop} {w X : World} {a : Act} {o : Oper} {L : List Ob} {D : Nat}
theorem alM {v : Value} (t : TypeId) (cs : List Value) (hw : Region.wanted o (yielded ops a.tmps) = true) (ho : o.op = .alloc t) (hz : ∀ w, (zeroValue t).run Tryd.prog w = .ok v w) (hv : v.cells.toList = cs) (hc : 0 < cs.length) (hL : SyM w X L D)
    (h : ∀ Y B, w.heap.size ≤ B → SyM w Y (L ++ [boxO B cs]) D → wpList Tryd.prog ops Q rest (a.put o.dst (.pointer (some ⟨B, 0, none⟩))) Y) : wpList Tryd.prog ops Q (o :: rest) a X := by
  have ev : v.cells = cs.toArray := by rw [← hv]
  have he : (execOp a.eval o).run Tryd.prog X = .ok (.value (.pointer (some ⟨X.heap.size, 0, none⟩))) (X.alloc (Obj.cells cs.toArray t)) := by
    unfold execOp
    simp only [ho]
    simp [go_sem, hz]
    show X.alloc (Obj.cells v.cells t) = _
    rw [ev]
  exact vl hw he (h _ _ hL.sy.fr.size (hL.box cs t hc))
theorem stM {b p : Nat} {cs vs : List Value} {v : Value} {x y : Operand} (i : Nat) (t : TypeId) (hw : Region.wanted o (yielded ops a.tmps) = true) (ho : o.op = .store t x y) (hx : a.eval x = .pointer (some ⟨b, p, none⟩)) (hy : a.eval y = v) (hv : v.cells.toList = vs) (h1 : ∀ u ∈ vs, u.oneCell' = true) (hi : (Tryd.prog.info? t).map (·.size) = some vs.length) (hL : SyM w X L D) (hl : L[i]? = some (boxO b cs)) (hp : p + vs.length ≤ cs.length)
    (h : ∀ Y, SyM w Y (L.set i (boxO b (cput cs p vs))) D → wpList Tryd.prog ops Q rest (a.put o.dst undef) Y) : wpList Tryd.prog ops Q (o :: rest) a X :=
  skv hw (ex_store ho hx hy hv h1 hi (hL.get i hl).1 hp) (h _ (hL.putB i hl p vs hp))
end
theorem rowRN0 {X : World} {base g n vc : Nat} {T : TT} (h : X.ownsRow base 54 20 (.slice (some ⟨g, 0, none⟩) n vc) n (flatP (T.live.map RR.pr))) (hn : n = T.live.length) {j : Nat} {r : RR} (hj : T.live[j]? = some r) : X.rangeAt g (j * 20) (r.k.cs ++ r.d.cs) := by
  have h1 := rowRN h hn hj
  rwa [Nat.zero_add] at h1
theorem sz54N : (Tryd.prog.info? 54).map (·.size) = some 20 := by kernel_rfl
theorem rw54N : ∃ d, Tryd.prog.underlying 54 = some d ∧ d.isRow = true := ⟨_, Tryd.underlying54, rfl⟩
theorem keys_step {T : TT} {j : Nat} {r : RR} (hj : T.live[j]? = some r) : flatK ((T.live.take j).map (·.k)) ++ r.k.cs = flatK ((T.live.take (j + 1)).map (·.k)) := by
  obtain ⟨hlt, he⟩ := List.getElem?_eq_some_iff.1 hj
  rw [List.take_succ_eq_append_getElem hlt, he]
  simp [flatK]
theorem SyM.appK {w X Y : World} {L : List Ob} {D : Nat} (h : SyM w X L D) (i : Nat) {base n m c : Nat} {kv : Value} {A : Option Addr} {ys zs : List Value} (hi : L[i]? = some (rowO base 34 2 kv n ys)) (ho : Y.ownsRow base 34 2 (.slice A m c) m zs) (hg : X.grownBy Y kv.ownBlock) (hf : Fresh X kv (.slice A m c)) : SyM w Y (L.set i (rowO base 34 2 (.slice A m c) m zs)) D :=
  h.set i hi (rowO_ok ..) ho (grown_fr hg) (fun b hb => by
    have hb' : (Value.slice A m c).ownBlock = some b := by simpa [rowO] using hb
    rcases hf with h1 | h1
    · exact .inl (by show b ∈ kv.ownBlock.toList; rw [← h1]; exact hb)
    · rw [h1] at hb'
      exact .inr (by have := Option.some.inj hb'; omega))
theorem appM {ops : Array Oper} {rest : List Oper} {Q : Exit → Act → World → Prop} {w X : World} {a : Act} {o : Oper} {L : List Ob} {D j kc B c : Nat} {KA : Option Addr} {ys : List Value} {k : KK} {p q : Operand} (hgd : o.guard = none) (ho : o.op = .call { callee := .builtin .append, args := #[p, q], argTypes := #[49, 49] }) (hs : a.eval p = .slice KA j kc) (hx : a.eval q = .slice (some ⟨B, 0, none⟩) 1 c) (hL : SyM w X L D) (hi : L[8]? = some (rowO w.heap.size 34 2 (.slice KA j kc) j ys)) (hb : L[12]? = some (boxO B k.cs)) (hj : j + 1 ≤ 1000000)
    (h : ∀ A c Y, SyM w Y (L.set 8 (rowO w.heap.size 34 2 (.slice A (j + 1) c) (j + 1) (ys ++ k.cs))) D → wpList Tryd.prog ops Q rest (a.put o.dst (.slice A (j + 1) c)) Y) : wpList Tryd.prog ops Q (o :: rest) a X :=
  append_any (z := zeroK.agg) (size := 2) (bytes := 24) (n := j) (m := 1) (base := w.heap.size) (news := k.cs) hgd ho hs hx Tryd.underlying49 info23w rfl (by omega) (hL.get 8 hi) (hL.get 12 hb).1 rfl (by simp [KK.cs, Value.oneCell']) hj (by omega) hL.sy.fr.size (fun A c Y hO hg hF => h A c Y (hL.appK 8 hi hO hg hF))
theorem sz4N : (Tryd.prog.info? 4).map (·.size) = some 1 := by kernel_rfl
theorem ord_case {l : List KK} {Y : World} {base : Nat} {v : Value} {n : Int} (hg : l.all goodK = true) (h : (l.all goodK = true ∧ n = 0 ∧ OwnK Y base v (outK (mg (ixs l)) ++ strs l ++ syms l)) ∨ (l.all goodK = false ∧ n = 5 ∧ v = .slice none 0 0)) : n = 0 ∧ OwnK Y base v (ordK l) := by
  rcases h with ⟨-, h1, h2⟩ | ⟨h1, -, -⟩
  · exact ⟨h1, h2⟩
  · rw [hg] at h1
    cases h1
theorem leave4 {w Y : World} {L : List Ob} {D B2 i : Nat} {tmps : Array Value} (h : SyM w Y L D) (hi : L[i]? = some (boxO B2 [.bool true])) (hx : tmps.getD 2 undef = .pointer (some ⟨B2, 0, none⟩)) : LeavesInM Fence.wide 6 Tryd.prog Tryd.f4 tmps (fun e w' => e = .returned (.bool true) ∧ Below w.heap.size w w') (marks [D]) .returning Y := by
  refine leaves_marks [D] _ (by simp) (fun E hE => by obtain rfl := List.mem_singleton.1 hE; exact h.dk) (fun Z hZ => ?_)
  have hb := (h.get i hi).1
  have hne : B2 ∉ [D] := fun hm => by
    have h1 := (h.sy.ok _ (List.mem_of_getElem? hi)).nm (h.get i hi) B2 (List.mem_singleton.2 rfl)
    rw [List.mem_singleton.1 hm] at h1
    exact (h1 _ h.dk).2 (.inr ⟨_, rfl⟩)
  have hb2 : Holds Z B2 [.bool true] := hb.block (hZ.block B2 (hb.lt (Nat.succ_pos _)) hne)
  exact ⟨_, res4 hb2 hx, rfl, (h.sy.fr.trans hZ (fun b hm => .inr (by rw [List.mem_singleton.1 hm]; exact h.lo))).below⟩
theorem sz25N : (Tryd.prog.info? 25).map (·.size) = some 1 := by kernel_rfl
theorem sz3N : (Tryd.prog.info? 3).map (·.size) = some 1 := by kernel_rfl
theorem ex_neqN {o : Oper} {a : Act} {w : World} {x y : Operand} {n m : Int} {r : Bool} (ho : o.op = .binOp .neq 3 x y 3) (hx : a.eval x = .int .i64 n) (hy : a.eval y = .int .i64 m) (h : (n != m) = r) : (execOp a.eval o).run Tryd.prog w = .ok (.value (.bool r)) w := by
  unfold execOp
  simp only [ho, hx, hy]
  simp [go_sem, eqGuard, h]
theorem ex_lenD {o : Oper} {a : Act} {w : World} {m : Operand} {b n sz : Nat} {F : KK → Option DD} (ho : o.op = .call { callee := .builtin .len, args := #[m], argTypes := #[32] }) (hm : a.eval m = .map (some b)) (h : MapD w b n sz F) : (execOp a.eval o).run Tryd.prog w = .ok (.value (.int .i64 (sz : Nat))) w := by
  have e := MapG.len encTD h o.type
  simp [execOp, ho, resolve, invoke, builtin, hm, e, Result.andThen]
theorem ex_eqFnN {o : Oper} {a : Act} {w : World} {x : Operand} {lb : Array Value} (ho : o.op = .binOp .eql 51 x (.const .nilFunc) 51) (hx : a.eval x = .func (.func 32) #[] lb) : (execOp a.eval o).run Tryd.prog w = .ok (.value (.bool false)) w := by
  have e : (binOp .eql 51 (.func (.func 32) #[] lb) .nilFunc).run Tryd.prog w = .ok (.bool false) w := by kernel_rfl
  have e2 : (eqGuard .eql 51 x (.const .nilFunc) (.func (.func 32) #[] lb) .nilFunc).run Tryd.prog w = .ok () w := by kernel_rfl
  have e3 : a.eval (.const .nilFunc) = .nilFunc := rfl
  unfold execOp
  simp only [ho, hx, e3]
  simp [e, e2]
theorem lawK : Go.WideMaps.KeyLaw Tryd.prog 34 := deep_law_laid laidOut (m := 2) (by omega) row33 key33 (by rw [Tryd.underlying34])
theorem setB_fr (X : World) (b : Nat) (o : Obj) : Fr X (Go.ChangeMaps.setBlock X b o) [b] := ⟨rfl, rfl, rfl, by simp [Go.ChangeMaps.setBlock], fun c hc hn => by
  have hne : b ≠ c := fun e => hn (by simp [e])
  simp [Go.ChangeMaps.setBlock, Array.getElem?_setIfInBounds, hne]⟩
theorem setB_at {X : World} {b : Nat} (o : Obj) (hb : b < X.heap.size) : (Go.ChangeMaps.setBlock X b o).heap[b]? = some o := by
  simp [Go.ChangeMaps.setBlock, Array.getElem?_setIfInBounds, hb]
theorem MapN.entry {X : World} {sb ns sz : Nat} {G : KK → Option Int} {k : KK} (h : MapN X sb ns sz G) (hk : OkK k) (hn : ns < maxLen) (r : Int) : ∃ v0 st X1, (Instr.mapEntry 56 (.map (some sb)) k.agg).run Tryd.prog X = .ok (.tuple #[v0, goInt st]) X1 ∧ Fr X X1 [sb] ∧ ∃ Y, (Instr.entryStore 56 (.map (some sb)) (goInt st) (.int .i64 r)).run Tryd.prog X1 = .ok () Y ∧ MapN Y sb (ns + 1) (if (G k).isSome then sz else sz + 1) (putG G k (some r)) ∧ Fr X1 Y [sb] := by
  obtain ⟨Y', g1, g2, g3⟩ := MapG.store encI encTI h hk hn r
  have hlt := MapG.lt h
  obtain ⟨D, ⟨es, clock, hb, Ft, hs, hD⟩, h2, h3⟩ := h
  obtain ⟨v0, st, es1, c1, e1, -, e3⟩ := Go.WideElems.entry_then_store lawK encTI.und encTI.zero hb Ft (keyOfK hk)
  obtain ⟨es', c', e4, e5⟩ := e3 (Go.ChangeMaps.setBlock X sb (.map es1 c1)) (.int .i64 r) (setB_at _ hlt)
  have e6 : Y' = Go.ChangeMaps.setBlock X sb (.map es' c') := by
    have h9 := g1.symm.trans e5
    simpa using h9
  refine ⟨v0, st, _, e1, setB_fr _ _ _, _, e4, MapG.block g2 ?_, setB_fr _ _ _⟩
  rw [e6, setB_at _ hlt, setB_at _ (Nat.lt_of_lt_of_le hlt (setB_fr _ _ _).size)]
theorem MapN.look1a {w : World} {b n sz : Nat} {G : KK → Option Int} {k : KK} (h : MapN w b n sz G) (hk : OkK k) : (Instr.lookup 56 (.map (some b)) k.agg false).run Tryd.prog w = .ok (.int .i64 ((G k).getD 0)) w := by
  obtain ⟨D, h, h2, h3⟩ := h
  obtain ⟨v, ps, hrun, hv⟩ := h.lookup law33 encTI.und (encTI.zero w) (encI.tot 0) (keyOfK hk)
  obtain ⟨h4, h5⟩ := h3 k hk
  rw [h4] at hv
  rw [hrun, encI.inv hv]
theorem setB_eq {X : World} {b : Nat} {o : Obj} (hb : X.heap[b]? = some o) : (Go.ChangeMaps.setBlock X b o).heap[b]? = X.heap[b]? := by
  rw [setB_at _ (Array.getElem?_eq_some_iff.1 hb).1, hb]
theorem MapN.entry2 {X : World} {sb ns sz : Nat} {G : KK → Option Int} {k : KK} (h : MapN X sb ns sz G) (hk : OkK k) (hn : ns < maxLen) (hG : G k = none) (r : Int) : ∃ v0 st X1, (Instr.mapEntry 56 (.map (some sb)) k.agg).run Tryd.prog X = .ok (.tuple #[v0, goInt st]) X1 ∧ Fr X X1 [sb] ∧ (Instr.lookup 56 (.map (some sb)) k.agg false).run Tryd.prog X1 = .ok (.int .i64 0) X1 ∧ ∃ Y, (Instr.entryStore 56 (.map (some sb)) (goInt st) (.int .i64 r)).run Tryd.prog X1 = .ok () Y ∧ MapN Y sb (ns + 1) (if (G k).isSome then sz else sz + 1) (putG G k (some r)) ∧ Fr X1 Y [sb] := by
  obtain ⟨v0, st, X1, a1, a2, Y, a3, a4, a5⟩ := MapN.entry h hk hn r
  refine ⟨v0, st, X1, a1, a2, ?_, Y, a3, a4, a5⟩
  obtain ⟨Y0, g1, g2, g3⟩ := MapG.store encI encTI h hk hn 0
  have hh := h
  obtain ⟨D, ⟨es, clock, hb, Ft, hs, hD⟩, h2, h3⟩ := hh
  have hlt := MapG.lt h
  rcases lawK.find X (keyOfK hk) es.toList Ft.keys with ⟨h1, -⟩ | ⟨j, e0, h1, h2', h3'⟩
  · have m1 : (Instr.mapEntry 56 (.map (some sb)) k.agg).run Tryd.prog X = .ok (.tuple #[.int .i64 0, goInt clock]) (Go.ChangeMaps.setBlock X sb (.map (es.push ⟨k.agg, .int .i64 0, clock⟩) (clock + 1))) := by
      simp [Instr.mapEntry, run_underlying encTI.und, MapKept.run_getObj_map hb, lawK.check X false (keyOfK hk), h1, encTI.zero, MapKept.run_setObj_map _ hb, Result.andThen, Go.ChangeMaps.setBlock]
    have m2 : (Instr.mapUpdate 56 (.map (some sb)) k.agg (.int .i64 0)).run Tryd.prog X = .ok () (Go.ChangeMaps.setBlock X sb (.map (es.push ⟨k.agg, .int .i64 0, clock⟩) (clock + 1))) := by
      simp [Instr.mapUpdate, run_underlying encTI.und, MapKept.run_getObj_map hb, lawK.check X false (keyOfK hk), h1, MapKept.run_setObj_map _ hb, Result.andThen, Go.ChangeMaps.setBlock]
    have e1 : X1 = Y0 := by
      have w1 := a1.symm.trans m1
      have w2 := g1.symm.trans m2
      simp at w1 w2
      rw [w1.2, w2]
    rw [e1]
    have := MapN.look1a g2 hk
    rw [putG_same] at this
    exact this
  · have hj : es[j]? = some e0 := by simpa using h2'
    have hsame : es.modify j (fun e => { e with key := k.agg }) = es := by
      apply Array.ext'
      rw [Array.toList_modify, Go.ChangeMaps.modify_eq_set _ _ _ _ h2']
      have : ({ e0 with key := k.agg } : MapEntry) = e0 := by rw [← h3']
      rw [this]
      exact Go.WideElems.set_self _ _ _ h2'
    have m1 : (Instr.mapEntry 56 (.map (some sb)) k.agg).run Tryd.prog X = .ok (.tuple #[e0.val, goInt e0.born]) (Go.ChangeMaps.setBlock X sb (.map es clock)) := by
      simp [Instr.mapEntry, run_underlying encTI.und, MapKept.run_getObj_map hb, lawK.check X false (keyOfK hk), h1, hj, h3', lawK.stays X (keyOfK hk), hsame, MapKept.run_setObj_map _ hb, Result.andThen, Go.ChangeMaps.setBlock]
    have e1 : X1 = Go.ChangeMaps.setBlock X sb (.map es clock) := by
      have w1 := a1.symm.trans m1
      simp at w1
      exact w1.2
    rw [e1]
    have := MapN.look1a (MapG.block h (setB_eq hb)) hk
    rw [hG] at this
    exact this
theorem ex_lookRun {o : Oper} {a : Act} {w : World} {m x : Operand} {b : Nat} {k : KK} {r : Int} (ho : o.op = .lookup 56 m x false) (hm : a.eval m = .map (some b)) (hx : a.eval x = k.agg) (h : (Instr.lookup 56 (.map (some b)) k.agg false).run Tryd.prog w = .ok (.int .i64 r) w) : (execOp a.eval o).run Tryd.prog w = .ok (.value (.int .i64 r)) w := by
  unfold execOp
  simp only [ho, hm, hx]
  simp [h]
theorem find_liveN {T : TT} {W : World} (h : T.Is W) {r : RR} (hr : r ∈ T.live) : T.find r.k = some r := by
  have hk := h.keys
  unfold TT.find
  generalize T.live = l at hr hk
  induction l with
  | nil => cases hr
  | cons a t ih =>
    rw [List.pairwise_cons] at hk
    rcases List.mem_cons.1 hr with rfl | h1
    · rw [List.find?_cons_of_pos (by simp)]
    · rw [List.find?_cons_of_neg (by simpa using hk.1 r h1)]
      exact ih h1 hk.2
theorem ex_mm56 {o : Oper} {a : Act} {w : World} (ho : o.op = .makeMap 56 none) : (execOp a.eval o).run Tryd.prog w = .ok (.value (.map (some w.heap.size))) (w.alloc (.map #[] 0)) := by
  have e : (Instr.makeMap 56 none).run Tryd.prog w = .ok (.map (some w.heap.size)) (w.alloc (.map #[] 0)) := by kernel_rfl
  unfold execOp
  simp only [ho]
  simp [e]
theorem ex_lookD {o : Oper} {a : Act} {w : World} {m x : Operand} {b n sz : Nat} {F : KK → Option DD} {k : KK} {d : DD} (ho : o.op = .lookup 32 m x true) (hm : a.eval m = .map (some b)) (hx : a.eval x = k.agg) (h : MapD w b n sz F) (hk : OkK k) (hd : F k = some d) : (execOp a.eval o).run Tryd.prog w = .ok (.value (.tuple #[d.agg, .bool true])) w := by
  have e := MapG.look encD encTD h hk
  rw [hd] at e
  unfold execOp
  simp only [ho, hm, hx]
  simp [e]
theorem MapN.look1 {w : World} {b n sz : Nat} {G : KK → Option Int} {k : KK} (h : MapN w b n sz G) (hk : OkK k) : (Instr.lookup 56 (.map (some b)) k.agg false).run Tryd.prog w = .ok (.int .i64 ((G k).getD 0)) w := by
  obtain ⟨D, h, h2, h3⟩ := h
  obtain ⟨v, ps, hrun, hv⟩ := h.lookup law33 encTI.und (encTI.zero w) (encI.tot 0) (keyOfK hk)
  obtain ⟨h4, h5⟩ := h3 k hk
  rw [h4] at hv
  rw [hrun, encI.inv hv]
theorem ex_look1N {o : Oper} {a : Act} {w : World} {m x : Operand} {b n sz : Nat} {G : KK → Option Int} {k : KK} {r : Int} (ho : o.op = .lookup 56 m x false) (hm : a.eval m = .map (some b)) (hx : a.eval x = k.agg) (h : MapN w b n sz G) (hk : OkK k) (hd : (G k).getD 0 = r) : (execOp a.eval o).run Tryd.prog w = .ok (.value (.int .i64 r)) w := by
  have e := MapN.look1 h hk
  rw [hd] at e
  unfold execOp
  simp only [ho, hm, hx]
  simp [e]
theorem ex_gtN {o : Oper} {a : Act} {w : World} {x y : Operand} {n m : Int} {r : Bool} (ho : o.op = .binOp .gtr 3 x y 3) (hx : a.eval x = .int .i64 n) (hy : a.eval y = .int .i64 m) (h : decide (m < n) = r) : (execOp a.eval o).run Tryd.prog w = .ok (.value (.bool r)) w := by
  unfold execOp
  simp only [ho, hx, hy]
  simp [go_sem, eqGuard, h]
theorem ex_entry {o : Oper} {a : Act} {X X1 : World} {m x : Operand} {sb : Nat} {k : KK} {v0 : Value} {st : Int} (ho : o.op = .mapEntry 56 m x) (hm : a.eval m = .map (some sb)) (hx : a.eval x = k.agg) (h : (Instr.mapEntry 56 (.map (some sb)) k.agg).run Tryd.prog X = .ok (.tuple #[v0, goInt st]) X1) : (execOp a.eval o).run Tryd.prog X = .ok (.value (.tuple #[v0, goInt st])) X1 := by
  unfold execOp
  simp only [ho, hm, hx]
  simp [h]
theorem ex_estore {o : Oper} {a : Act} {X1 Y : World} {m x y : Operand} {sb : Nat} {st : Int} {r : Int} (ho : o.op = .entryStore 56 m x y) (hm : a.eval m = .map (some sb)) (hx : a.eval x = goInt st) (hy : a.eval y = .int .i64 r) (h : (Instr.entryStore 56 (.map (some sb)) (goInt st) (.int .i64 r)).run Tryd.prog X1 = .ok () Y) : (execOp a.eval o).run Tryd.prog X1 = .ok .skip Y := by
  unfold execOp
  simp only [ho, hm, hx, hy]
  simp [h]
theorem ex_build49 {o : Oper} {a : Act} {w : World} {x : Operand} (k : KK) (ho : o.op = .buildSlice 49 1 #[(0, x)]) (hx : a.eval x = k.agg) : (execOp a.eval o).run Tryd.prog w = .ok (.value (.slice (some ⟨w.heap.size, 0, none⟩) 1 1)) (w.alloc (Obj.cells k.cs.toArray 34)) := by
  have e : (Instr.buildSlice 49 1 #[(0, k.agg)]).run Tryd.prog w = .ok (.slice (some ⟨w.heap.size, 0, none⟩) 1 1) (w.alloc (Obj.cells k.cs.toArray 34)) := by kernel_rfl
  unfold execOp
  simp only [ho]
  simp [hx, e]
/-- What was seen: the keys of a row, each once. -/
def seenG (l : List RR) : KK → Option Int := fun q => if l.any (fun r => decide (r.k = q)) then some 1 else none
theorem seen_no {T : TT} {W : World} (h : T.Is W) {j : Nat} {r : RR} (hj : T.live[j]? = some r) : seenG (T.live.take j) r.k = none := by
  obtain ⟨hlt, he⟩ := List.getElem?_eq_some_iff.1 hj
  unfold seenG
  rw [if_neg]
  rw [Bool.not_eq_true, List.any_eq_false]
  intro q hq
  obtain ⟨i, hi, rfl⟩ := List.getElem_of_mem hq
  have hi2 : i < j := by simp at hi; omega
  have := List.pairwise_iff_getElem.1 h.keys i j (by omega) hlt hi2
  rw [he] at this
  simpa using this
theorem seen_step {T : TT} {j : Nat} {r : RR} (hj : T.live[j]? = some r) : putG (seenG (T.live.take j)) r.k (some 1) = seenG (T.live.take (j + 1)) := by
  obtain ⟨hlt, he⟩ := List.getElem?_eq_some_iff.1 hj
  funext q
  unfold seenG
  rw [List.take_succ_eq_append_getElem hlt, List.any_append, he]
  by_cases hq : q = r.k
  · rw [hq, putG_same]
    simp
  · rw [putG_other hq]
    have : ¬ r.k = q := fun e => hq e.symm
    simp [this]
end Go.Proofs.YtmemceindohklaaDoor
