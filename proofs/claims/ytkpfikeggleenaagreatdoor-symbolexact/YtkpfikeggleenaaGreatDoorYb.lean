import Derived.Test.YtkpfikeggleenaaGreatDoorYa
import Derived.StringKeys
import Derived.Maps.Keyed
namespace Go.Proofs.YtkpfikeggleenaaGreatDoor
open Go Go.Proofs Go.Maps Go.RowKit
set_option linter.unusedSimpArgs false
set_option linter.unusedVariables false
set_option maxHeartbeats 1000000
/-! Symbols, and rows of them. -/
structure SY where
  v : VV
  k : Bool
def SY.cs (y : SY) : List Value := y.v.cs ++ [.bool y.k]
def SY.agg (y : SY) : Value := .agg y.cs.toArray
theorem ycs_length (y : SY) : y.cs.length = 6 := rfl
theorem vcs_length (v : VV) : v.cs.length = 5 := rfl
theorem vagg (v : VV) : v.agg = .agg v.cs.toArray := rfl
theorem ycs_one (y : SY) : ∀ u ∈ y.cs, u.oneCell' = true := by simp [SY.cs, VV.cs, Value.oneCell']
theorem vcs_one (v : VV) : ∀ u ∈ v.cs, u.oneCell' = true := by simp [VV.cs, Value.oneCell']
def flatS (l : List SY) : List Value := l.flatMap SY.cs
theorem flatS_append (l m : List SY) : flatS (l ++ m) = flatS l ++ flatS m := by unfold flatS; rw [List.flatMap_append]
theorem flatS_one (d : SY) : flatS [d] = d.cs := by simp [flatS]
theorem flatS_length : ∀ l : List SY, (flatS l).length = l.length * 6
  | [] => rfl
  | d :: l => by
    have h := flatS_length l
    have e : flatS (d :: l) = d.cs ++ flatS l := rfl
    rw [e, List.length_append, h, ycs_length, List.length_cons]
    omega
theorem flatS_get : ∀ (l : List SY) (j t : Nat) (hj : j < l.length), t < 6 → (flatS l)[j * 6 + t]? = (l[j]).cs[t]?
  | [], j, t, hj, _ => by simp at hj
  | d :: l, 0, t, hj, ht => by
    have e : flatS (d :: l) = d.cs ++ flatS l := rfl
    rw [e, List.getElem?_append_left (by rw [ycs_length]; omega)]
    simp
  | d :: l, j + 1, t, hj, ht => by
    have e : flatS (d :: l) = d.cs ++ flatS l := rfl
    rw [e, List.getElem?_append_right (by rw [ycs_length]; omega), ycs_length, show (j + 1) * 6 + t - 6 = j * 6 + t by omega]
    have := flatS_get l j t (by simpa using hj) ht
    simpa using this
/-- A row of symbols that is ours. -/
def OwnS (T : TypeId) (W : World) (v : Value) (l : List SY) : Prop := W.ownsRow 5 T 6 v l.length (flatS l)
section
variable {T : TypeId} {W W' : World} {v : Value} {l : List SY}
theorem OwnS.nil (T : TypeId) (W : World) : OwnS T W (.slice none 0 0) [] := ⟨rfl, .inl ⟨rfl, rfl⟩⟩
theorem OwnS.lt (h : OwnS T W v l) : ∀ g, v.ownBlock = some g → 5 ≤ g ∧ g < W.heap.size := fun g hg => World.ownsRow.lt h g hg
theorem OwnS.block (h : OwnS T W v l) (he : ∀ g, v.ownBlock = some g → W'.heap[g]? = W.heap[g]?) : OwnS T W' v l := by
  obtain ⟨h1, h2⟩ := h
  refine ⟨h1, ?_⟩
  rcases h2 with h2 | ⟨g, cap, cur, rfl, h3, h4, h5⟩
  · exact .inl h2
  · exact .inr ⟨g, cap, cur, rfl, h3, (he g rfl).trans h4, h5⟩
theorem OwnS.form (h : OwnS T W v l) : ∃ A c, v = .slice A l.length c := own_form h
theorem OwnS.row (h : OwnS T W v l) (j : Nat) (hj : j < l.length) : ∃ g c, v = .slice (some ⟨g, 0, none⟩) l.length c ∧ W.rangeAt g (j * 6) l[j].cs := by
  rcases h.2 with ⟨h1, h0⟩ | ⟨g, cap, cur, h1, h2, h3, h4, h5, h6, h7⟩
  · omega
  · refine ⟨g, cap, h1, fun t u hu => ?_⟩
    have ht : t < 6 := by
      have := (List.getElem?_eq_some_iff.1 hu).1
      simpa [ycs_length] using this
    have h8 : (cur.toList.take (l.length * 6))[j * 6 + t]? = (flatS l)[j * 6 + t]? := by rw [h7]
    rw [List.getElem?_take, if_pos (by omega), flatS_get l j t hj ht, hu] at h8
    have e2 : cur[j * 6 + t]? = some u := by simpa using h8
    simp [World.cell?, h3, e2]
end
/-! A map from texts to numbers. -/
def intR : Value → Option (DataW Unit × List MemPlace)
  | .int .i64 n => some (.lit (.int .i64 n), [])
  | _ => none
def zl (n : Int) : DataW Unit := .lit (.int .i64 n)
theorem intR_int (n : Int) : intR (.int .i64 n) = some (zl n, []) := rfl
theorem intR_inv {v : Value} {n : Int} {ps : List MemPlace} (h : intR v = some (zl n, ps)) : v = .int .i64 n := by
  unfold intR at h
  split at h
  · rename_i m
    have e := congrArg Prod.fst (Option.some.inj h)
    simp [zl] at e
    rw [e]
  · cases h
def zv : Option Nat → Int
  | none => 0
  | some n => n
def kS (s : ByteArray) : Lit := .string s.data.toList
def OkS (s : ByteArray) : Prop := s.size ≤ maxLen
theorem law9 : Keyed Tryz.prog 9 := Keyed.of_law (WideMaps.string_law Tryz.underlying9)
theorem keyOfS {s : ByteArray} (h : OkS s) : keyOf Tryz.prog 9 (.string s) = some (kS s) := WideMaps.keyOf_string_mk Tryz.underlying9 h
theorem kS_inj {s t : ByteArray} (e : kS s = kS t) : s = t := by
  have h : s.data.toList = t.data.toList := by simpa [kS] using e
  cases s; cases t
  simpa using h
theorem kS_key {s : ByteArray} (h : OkS s) : WideAt.IsKeyLit (kS s) := law9.key (keyOfS h)
/-- Block b is a map of sz texts: the text s leads to the number F s. -/
def MapS (w : World) (b n sz : Nat) (F : ByteArray → Option Nat) : Prop :=
  ∃ D : DataW Unit, w.ownsMap Tryz.prog 9 intR b n D ∧ Maps.size D = sz ∧ ∀ s, OkS s → D.atKey (kS s) (zl 0) = zl (zv (F s)) ∧ Maps.has D (kS s) = (F s).isSome
section
variable {w w' : World} {b n sz : Nat} {F : ByteArray → Option Nat}
theorem MapS.made (w : World) : MapS (w.alloc (.map #[] 0)) w.heap.size 0 0 (fun _ => none) := ⟨_, World.ownsMap_made w _ _ _, rfl, fun k _ => ⟨rfl, rfl⟩⟩
theorem MapS.lt (h : MapS w b n sz F) : b < w.heap.size := by
  obtain ⟨D, h, -⟩ := h
  exact h.lt
theorem MapS.block (h : MapS w b n sz F) (he : w'.heap[b]? = w.heap[b]?) : MapS w' b n sz F := by
  obtain ⟨D, ⟨es, clock, hb, Ft, hs, hD⟩, h2, h3⟩ := h
  exact ⟨D, ⟨es, clock, he.trans hb, Ft, hs, hD⟩, h2, h3⟩
theorem MapS.mono {n' : Nat} (h : MapS w b n sz F) (hn : n ≤ n') : MapS w b n' sz F := by
  obtain ⟨D, h, h2⟩ := h
  exact ⟨D, h.mono hn, h2⟩
theorem zero3 (w : World) : (zeroValue 3).run Tryz.prog w = .ok (.int .i64 0) w := by kernel_rfl
theorem MapS.look (h : MapS w b n sz F) {s : ByteArray} (hk : OkS s) : (Instr.lookup 70 (.map (some b)) (.string s) true).run Tryz.prog w = .ok (.tuple #[.int .i64 (zv (F s)), .bool (F s).isSome]) w := by
  obtain ⟨D, h, h2, h3⟩ := h
  obtain ⟨v, ps, hrun, hv⟩ := h.look_ok law9 Tryz.underlying70 (zero3 w) (intR_int 0) (keyOfS hk)
  obtain ⟨h4, h5⟩ := h3 s hk
  have hv' : intR v = some (zl (zv (F s)), ps) := by rw [← h4]; exact hv
  rw [hrun, h5, intR_inv hv']
theorem MapS.len (h : MapS w b n sz F) (ty : TypeId) : (Builtin.len_ #[70] ty #[.map (some b)]).run Tryz.prog w = .ok (.int .i64 sz) w := by
  obtain ⟨D, h, h2, h3⟩ := h
  rw [h.len Tryz.underlying70 ty, h2]
def putS (F : ByteArray → Option Nat) (s : ByteArray) (r : Nat) : ByteArray → Option Nat := fun q => if q = s then some r else F q
theorem MapS.store (h : MapS w b n sz F) {s : ByteArray} (hk : OkS s) (hn : n < maxLen) (r : Nat) :
    ∃ w', (Instr.mapUpdate 70 (.map (some b)) (.string s) (.int .i64 (r : Nat))).run Tryz.prog w = .ok () w' ∧ MapS w' b (n + 1) (if (F s).isSome then sz else sz + 1) (putS F s r) ∧ w.mapTurned w' b := by
  obtain ⟨D, h, h2, h3⟩ := h
  obtain ⟨w', hrun, ho, ht⟩ := h.store law9 Tryz.underlying70 hn (keyOfS hk) (intR_int r)
  have ti := h.tidy law9
  refine ⟨w', hrun, ⟨_, ho, ?_, fun q hq => ?_⟩, ht⟩
  · rw [size_put ti, (h3 s hk).2, h2]
  · by_cases e : q = s
    · subst e
      rw [atKey_put_same ti.isMap (kS_key hk), has_put_same ti.isMap (kS_key hk)]
      unfold putS
      rw [if_pos rfl]
      exact ⟨rfl, rfl⟩
    · have ne : kS q ≠ kS s := fun e' => e (kS_inj e')
      rw [atKey_put_other ne, has_put_other ne]
      unfold putS
      rw [if_neg e]
      exact h3 q hq
end
/-! A registry of the program. -/
structure RG where
  r : Nat
  m : Nat
  sv : Value
  l : List SY
def RG.blocks (R : RG) : List Nat := R.r :: R.m :: R.sv.ownBlock.toList
def RG.cs (R : RG) : List Value := [R.sv, .map (some R.m)]
structure RG.Is (R : RG) (W : World) (n sz : Nat) (F : ByteArray → Option Nat) : Prop where
  hold : Holds W R.r R.cs
  own : OwnS 77 W R.sv R.l
  map : MapS W R.m n sz F
  nd : R.blocks.Nodup
  ge : ∀ b ∈ R.blocks, 5 ≤ b
  sml : ∀ y ∈ R.l, y.v.s.size ≤ 1048576
section
variable {R : RG} {W W' : World} {n sz : Nat} {F : ByteArray → Option Nat}
theorem RG.Is.lt (h : R.Is W n sz F) : ∀ b ∈ R.blocks, b < W.heap.size := by
  intro b hb
  simp only [RG.blocks, List.mem_cons] at hb
  rcases hb with rfl | rfl | hb
  · exact h.hold.lt (by simp [RG.cs])
  · exact h.map.lt
  · exact (h.own.lt b (by simpa using hb)).2
theorem RG.Is.block (h : R.Is W n sz F) (he : ∀ b ∈ R.blocks, W'.heap[b]? = W.heap[b]?) : R.Is W' n sz F :=
  ⟨h.hold.block (he _ (by simp [RG.blocks])), h.own.block (fun g hg => he g (by simp [RG.blocks, hg])), h.map.block (he _ (by simp [RG.blocks])), h.nd, h.ge, h.sml⟩
theorem RG.Is.on (h : R.Is W n sz F) (hb : Below W.heap.size W W') : R.Is W' n sz F := h.block (fun b hb' => hb.block b (h.lt b hb'))
theorem RG.Is.fr {E : List Nat} (h : R.Is W n sz F) (hb : Fr W W' E) (hE : ∀ b ∈ R.blocks, b ∉ E) : R.Is W' n sz F := h.block (fun b hb' => hb.block b (h.lt b hb') (hE b hb'))
theorem RG.Is.drew (h : R.Is W n sz F) : R.Is W.drew n sz F := h.block (fun _ _ => rfl)
end
/-! What the program's variables hold. -/
def asc (l : List Nat) : ByteArray := ⟨(l.map (fun n => UInt8.ofNat n)).toArray⟩
def wkL : List ByteArray := [asc [83, 121, 109, 98, 111, 108, 46, 97, 115, 121, 110, 99, 73, 116, 101, 114, 97, 116, 111, 114], asc [83, 121, 109, 98, 111, 108, 46, 104, 97, 115, 73, 110, 115, 116, 97, 110, 99, 101], asc [83, 121, 109, 98, 111, 108, 46, 105, 115, 67, 111, 110, 99, 97, 116, 83, 112, 114, 101, 97, 100, 97, 98, 108, 101], asc [83, 121, 109, 98, 111, 108, 46, 105, 116, 101, 114, 97, 116, 111, 114], asc [83, 121, 109, 98, 111, 108, 46, 109, 97, 116, 99, 104], asc [83, 121, 109, 98, 111, 108, 46, 109, 97, 116, 99, 104, 65, 108, 108], asc [83, 121, 109, 98, 111, 108, 46, 114, 101, 112, 108, 97, 99, 101], asc [83, 121, 109, 98, 111, 108, 46, 115, 101, 97, 114, 99, 104], asc [83, 121, 109, 98, 111, 108, 46, 115, 112, 101, 99, 105, 101, 115], asc [83, 121, 109, 98, 111, 108, 46, 115, 112, 108, 105, 116], asc [83, 121, 109, 98, 111, 108, 46, 116, 111, 80, 114, 105, 109, 105, 116, 105, 118, 101], asc [83, 121, 109, 98, 111, 108, 46, 116, 111, 83, 116, 114, 105, 110, 103, 84, 97, 103], asc [83, 121, 109, 98, 111, 108, 46, 117, 110, 115, 99, 111, 112, 97, 98, 108, 101, 115]]
def nmL : List ByteArray := [asc [97, 115, 121, 110, 99, 73, 116, 101, 114, 97, 116, 111, 114], asc [104, 97, 115, 73, 110, 115, 116, 97, 110, 99, 101], asc [105, 115, 67, 111, 110, 99, 97, 116, 83, 112, 114, 101, 97, 100, 97, 98, 108, 101], asc [105, 116, 101, 114, 97, 116, 111, 114], asc [109, 97, 116, 99, 104], asc [109, 97, 116, 99, 104, 65, 108, 108], asc [114, 101, 112, 108, 97, 99, 101], asc [115, 101, 97, 114, 99, 104], asc [115, 112, 101, 99, 105, 101, 115], asc [115, 112, 108, 105, 116], asc [116, 111, 80, 114, 105, 109, 105, 116, 105, 118, 101], asc [116, 111, 83, 116, 114, 105, 110, 103, 84, 97, 103], asc [117, 110, 115, 99, 111, 112, 97, 98, 108, 101, 115]]
def wkCs : List Value := wkL.map Value.string
def nmCs : List Value := nmL.map Value.string
structure Tabs (W : World) : Prop where
  u : Lib.Utf8Tabs 3 4 W
  k : W.rangeAt 0 0 wkCs
  sz : 5 ≤ W.heap.size
theorem Tabs.low {W W' : World} (h : Tabs W) (hb : Below 5 W W') : Tabs W' :=
  ⟨⟨fun c hc => (hb.cell (p := ⟨3, c, none⟩) (by show 3 < 5; omega)).trans (h.u.1 c hc), fun i hi => ⟨(hb.cell (p := ⟨4, 2 * i, none⟩) (by show 4 < 5; omega)).trans (h.u.2 i hi).1, (hb.cell (p := ⟨4, 2 * i + 1, none⟩) (by show 4 < 5; omega)).trans (h.u.2 i hi).2⟩⟩,
    fun j v hv => (hb.cell (p := ⟨0, 0 + j, none⟩) (by show 0 < 5; omega)).trans (h.k j v hv), Nat.le_trans h.sz hb.size⟩
theorem Tabs.fr {W W' : World} {E : List Nat} (h : Tabs W) (hb : Fr W W' E) (hE : ∀ b ∈ E, 5 ≤ b) : Tabs W' :=
  h.low ⟨hb.os, hb.tape, hb.output, hb.size, fun b hb' => hb.block b (Nat.lt_of_lt_of_le hb' h.sz) (fun he => by have := hE b he; omega)⟩
theorem Tabs.on {W W' : World} (h : Tabs W) (hb : Below W.heap.size W W') : Tabs W' := h.low (hb.mono h.sz)
def Nm (W : World) : Prop := W.rangeAt 1 0 nmCs ∧ 5 ≤ W.heap.size
theorem Nm.fr {W W' : World} {E : List Nat} (h : Nm W) (hb : Fr W W' E) (hE : ∀ b ∈ E, 5 ≤ b) : Nm W' :=
  ⟨fun j v hv => (World.cell?_of_block (hb.block 1 (by have := h.2; omega) (fun he => by have := hE 1 he; omega))).trans (h.1 j v hv), Nat.le_trans h.2 hb.size⟩
theorem Nm.on {W W' : World} (h : Nm W) (hb : Below W.heap.size W W') : Nm W' := h.fr (Fr.of_below hb []) (by simp)
theorem Tabs.drew {W : World} (h : Tabs W) : Tabs W.drew := h.fr (Fr.refl W []).drew (by simp)
end Go.Proofs.YtkpfikeggleenaaGreatDoor
