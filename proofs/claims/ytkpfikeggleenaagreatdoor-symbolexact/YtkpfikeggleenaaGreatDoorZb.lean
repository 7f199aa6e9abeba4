import Derived.Test.YtkpfikeggleenaaGreatDoorZa
import Derived.Test.YtkpfikeggleenaaGreatDoorYn
import Derived.Maps.RangeWalk
namespace Go.Proofs.YtkpfikeggleenaaGreatDoor
open Go Go.Proofs Go.Maps Go.RowKit
set_option linter.unusedSimpArgs false
set_option linter.unusedVariables false
set_option maxHeartbeats 1000000
open Go.WideElems (rg rd_key rg_of)
theorem nodup_le {α : Type} [DecidableEq α] : ∀ (l m : List α), l.Nodup → (∀ x ∈ l, x ∈ m) → l.length ≤ m.length
  | [], m, _, _ => Nat.zero_le _
  | a :: l, m, h, hs => by
    rw [List.nodup_cons] at h
    have ha := hs a (List.mem_cons_self ..)
    have := nodup_le l (m.erase a) h.2 (fun x hx => (List.mem_erase_of_ne (fun e : x = a => h.1 (e ▸ hx))).2 (hs x (List.mem_cons_of_mem _ hx)))
    rw [List.length_erase_of_mem ha] at this
    have hp := List.length_pos_of_mem ha
    simp only [List.length_cons]
    omega
/-- The keys of a map of texts are texts. -/
theorem keys_str {w : World} {b n : Nat} {D : DataW Unit} (h : w.ownsMap Tryz.prog 9 intR b n D) : ∃ es, D = .map es ∧ es.Pairwise (fun p q => p.1 ≠ q.1) ∧ ∀ p ∈ es, ∃ s, OkS s ∧ p.1 = kS s := by
  obtain ⟨es, hD, hp, -⟩ := h.entries law9
  refine ⟨es, hD, hp, fun p hpm => ?_⟩
  obtain ⟨ea, clock, hb, F, hs, hD2⟩ := h
  rw [hD] at hD2
  have e : es = (ea.toList.map (rg Tryz.prog 9 intR)).foldr DataW.insert [] := by simpa using hD2
  rw [e] at hpm
  obtain ⟨x, hx, rfl⟩ := List.mem_map.1 (mem_sorted.1 hpm)
  obtain ⟨y, hy⟩ := F.reads x hx
  rw [rg_of hy]
  obtain ⟨s, -, e2, e3⟩ := WideMaps.string_of_keyOf Tryz.underlying9 (rd_key hy)
  exact ⟨s, e3, e2⟩
theorem sV_vS {s : ByteArray} (h : (sV s).good = true) : vS s = true ∧ s.size ≤ 1048576 := by
  refine ⟨?_, sV_size h⟩
  unfold VV.good goodV inG at h
  simp [sV, fitV] at h
  have := h.2.2
  unfold vS
  exact this
theorem ex_entry {o : Oper} {a : Act} {w : World} {x : Operand} {v u : Value} (ho : o.op = .entry x) (hx : a.eval x = v) (h : (Instr.entry v).run Tryz.prog w = .ok u w) : (execOp a.eval o).run Tryz.prog w = .ok (.value u) w := by
  unfold execOp
  simp only [ho, hx]
  simp [h]
theorem own_blk {w w' : World} {base e s n : Nat} {v : Value} {xs : List Value} (h : w.ownsRow base e s v n xs) (he : ∀ g, v.ownBlock = some g → w'.heap[g]? = w.heap[g]?) : w'.ownsRow base e s v n xs := by
  obtain ⟨h1, h2⟩ := h
  refine ⟨h1, ?_⟩
  rcases h2 with h2 | ⟨g, cap, cur, rfl, h3, h4, h5⟩
  · exact .inl h2
  · exact .inr ⟨g, cap, cur, rfl, h3, (he g rfl).trans h4, h5⟩
/-- Known, in the midst: ts are gathered, the others are still to come. -/
structure KM (w wr : World) (m it n sz : Nat) (F : ByteArray → Option Nat) (D : DataW Unit) (v : Value) (ts : List ByteArray) (left : Lit → Bool) (cnt : Nat) : Prop where
  rg : wr.ranges Tryz.prog 9 intR m it n D left cnt
  own : wr.ownsRow w.heap.size 9 1 v ts.length (ts.map Value.string)
  isS : v.ownBlock.isSome = true
  ne : v.ownBlock ≠ some it
  bel : Below w.heap.size w wr
  sum : ts.length + cnt ≤ sz
  nd : ts.Nodup
  good : ∀ s ∈ ts, OkS s ∧ (F s).isSome = true ∧ left (kS s) = false
  all : ∀ s, OkS s → (F s).isSome = true → left (kS s) = true ∨ s ∈ ts
  sub : ∀ s, OkS s → left (kS s) = true → (F s).isSome = true
theorem KM.on {w wr X : World} {m it n sz : Nat} {F : ByteArray → Option Nat} {D : DataW Unit} {v : Value} {ts : List ByteArray} {left : Lit → Bool} {cnt : Nat} (h : KM w wr m it n sz F D v ts left cnt) (hb : Below wr.heap.size wr X) : KM w X m it n sz F D v ts left cnt :=
  ⟨h.rg.kept (grown_of_below hb) (by simp) (by simp), own_blk h.own (fun g hg => hb.block g ((World.ownsRow.lt h.own g hg).2)), h.isS, h.ne, h.bel.trans (hb.mono h.bel.size), h.sum, h.nd, h.good, h.all, h.sub⟩
theorem sameKey_kS {s t : ByteArray} (hs : OkS s) : (kS t).sameKey (kS s) = true ↔ t = s := by
  constructor
  · intro h
    exact kS_inj (WideAt.sameKey_eq h)
  · rintro rfl
    exact WideAt.sameKey_self (kS_key hs)
/-- The next one has come. -/
theorem KM.next {w wr X Y : World} {m it n sz cnt' : Nat} {F : ByteArray → Option Nat} {D : DataW Unit} {v v' : Value} {ts : List ByteArray} {left : Lit → Bool} {cnt : Nat} {s : ByteArray} (h : KM w wr m it n sz F D v ts left cnt) (hm : m < w.heap.size) (hk : OkS s) (hl : left (kS s) = true) (hr : X.ranges Tryz.prog 9 intR m it n D (fun z => left z && !z.sameKey (kS s)) cnt') (hc : cnt' < cnt)
    (ho : Y.ownsRow w.heap.size 9 1 v' (ts.length + 1) (ts.map Value.string ++ [.string s])) (hg : X.grownBy Y v.ownBlock) (hf : Fresh X v v') (hb : Below w.heap.size w X) (hit : it < X.heap.size) : KM w Y m it n sz F D v' (ts ++ [s]) (fun z => left z && !z.sameKey (kS s)) cnt' := by
  have hfs := h.sub s hk hl
  have hns : s ∉ ts := fun hm => by
    have := (h.good s hm).2.2
    rw [hl] at this
    cases this
  have hlt := World.ownsRow.lt h.own
  refine ⟨hr.kept hg (fun e => ?_) (fun e => h.ne e.symm), ?_, ?_, ?_, ?_, ?_, ?_, ?_, ?_, ?_⟩
  · have := (hlt m e.symm).1
    omega
  · rw [List.length_append, List.map_append]
    exact ho
  · rcases hf with e | e
    · rw [e]; exact h.isS
    · rw [e]; rfl
  · rcases hf with e | e
    · rw [e]; exact h.ne
    · rw [e]
      intro e2
      have : X.heap.size = it := by simpa using e2
      omega
  · exact hb.grown hg hb.size (fun k hk => (hlt k hk).1)
  · rw [List.length_append]
    have := h.sum
    simp
    omega
  · rw [List.nodup_append]
    exact ⟨h.nd, by simp, fun a ha b hb2 e => hns (by
      have : b = s := by simpa using hb2
      rw [← this, ← e]; exact ha)⟩
  · intro t ht
    rcases List.mem_append.1 ht with ht | ht
    · obtain ⟨h1, h2, h3⟩ := h.good t ht
      exact ⟨h1, h2, by rw [h3]; rfl⟩
    · obtain rfl : t = s := by simpa using ht
      exact ⟨hk, hfs, by rw [(sameKey_kS hk).2 rfl]; simp⟩
  · intro t ht hft
    rcases h.all t ht hft with h1 | h1
    · by_cases e : t = s
      · exact .inr (by rw [e]; simp)
      · refine .inl ?_
        have : (kS t).sameKey (kS s) = false := by
          cases hq : (kS t).sameKey (kS s)
          · rfl
          · exact absurd ((sameKey_kS hk).1 hq) e
        rw [h1, this]
        rfl
    · exact .inr (List.mem_append_left _ h1)
  · intro t ht hlf
    rw [Bool.and_eq_true] at hlf
    exact h.sub t ht hlf.1
/-- All have come. -/
theorem KM.done {w w0 wr : World} {m it n n0 sz : Nat} {F : ByteArray → Option Nat} {D : DataW Unit} {v : Value} {ts : List ByteArray} {left : Lit → Bool} {cnt : Nat} (h : KM w wr m it n sz F D v ts left cnt) (hD : w0.ownsMap Tryz.prog 9 intR m n0 D) (hsz : Maps.size D = sz) (hh : ∀ s, OkS s → Maps.has D (kS s) = (F s).isSome) (hl : ∀ kl, left kl = false) : ts.length = sz := by
  obtain ⟨es, rfl, hp, hk⟩ := keys_str hD
  have e1 : es.length = sz := hsz
  have h2 : (es.map (·.1)).length ≤ (ts.map kS).length := by
    haveI : DecidableEq Lit := fun a b => Classical.propDecidable (a = b)
    refine nodup_le _ _ ?_ (fun x hx => ?_)
    · rw [List.Nodup, List.pairwise_map]
      exact hp
    · obtain ⟨p, hp2, rfl⟩ := List.mem_map.1 hx
      obtain ⟨s, hs, e⟩ := hk p hp2
      have hhas : Maps.has (DataW.map es) (kS s) = true := List.any_eq_true.2 ⟨p, hp2, by rw [e]; exact WideAt.sameKey_self (kS_key hs)⟩
      rw [hh s hs] at hhas
      rcases h.all s hs hhas with h3 | h3
      · rw [hl] at h3
        cases h3
      · rw [e]
        exact List.mem_map.2 ⟨s, h3, rfl⟩
  simp only [List.length_map] at h2
  have := h.sum
  omega
end Go.Proofs.YtkpfikeggleenaaGreatDoor
