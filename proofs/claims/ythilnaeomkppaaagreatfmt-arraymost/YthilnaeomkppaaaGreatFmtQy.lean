import Derived.Test.YthilnaeomkppaaaGreatFmtQx
import Derived.Lib.ItoaMem
import Derived.Lib.AppendIntMem
set_option linter.all false
namespace Go.Proofs.YthilnaeomkppaaaGreatFmt
section
open Go Go.Proofs Go.RowKit
set_option maxHeartbeats 2000000 in
set_option maxRecDepth 100000 in
theorem small72 (u : Nat) (h : u < 100) (w : World) : Calls Tryz.prog 57 #[.int .u64 (u : Nat), .int .i64 10] w fun e w' => e = .returned (.string ⟨(Lib.decDigits u).toArray⟩) ∧ w' = w := by
  have z : (u : Int) < 100 := by omega
  have HS := hide (fun w => Tryz.internal_strconv_small u h w)
  generalize Lib.decDigits u = d at *
  go_enter Tryz.func57, Tryz.ntmps57
  go_wp2_with fail
  refine (unhide HS _).mono ?_
  rintro e w1 ⟨rfl, rfl⟩
  go_wp2
  go_ret
  exact ⟨rfl, rfl⟩
end
section
open Go Go.Proofs Go.RowKit Go.Sort
def TabP (w : World) : Prop := Lib.TabIs Tryz.prog w "internal/strconv.uint64pow10" .u64 Lib.pow10Tab
theorem TabP.on {w w' : World} (h : TabP w) (hb : Below w.heap.size w w') : TabP w' := by
  unfold TabP Lib.TabIs World.var? at *
  cases hg : Tryz.prog.globalNamed "internal/strconv.uint64pow10" with
  | none => simp [hg] at h
  | some g =>
    simp only [hg, Option.bind_some] at h ⊢
    have hlt : g < w.heap.size := by
      rcases Nat.lt_or_ge g w.heap.size with h' | h'
      · exact h'
      · rw [Array.getElem?_eq_none h'] at h; simp at h
    rw [hb.block g hlt]
    exact h
theorem holds0 (w : World) (T : TypeId) (nd : Nat) (hs : nd ≤ 24) : Sort.Holds (fun (b : UInt8) => Value.int .u8 (b.toNat : Int)) (w.alloc (.cells Lib.zeros24 T)) w.heap.size 0 (Array.replicate nd (0 : UInt8)) := fun j hj => by
  have hj' : j < nd := by simpa using hj
  refine ⟨?_, World.frozen?_alloc_new _ _ _ _⟩
  rw [World.cell?_alloc_new, Lib.zeros24_at _ (by omega), getElem!_pos _ j hj]
  simp
theorem fin0 (w : World) (o : Obj) (dk : Array UInt8) (k : Nat) : ∃ os, (Sort.putRow (fun (b : UInt8) => Value.int .u8 (b.toNat : Int)) (w.alloc o) w.heap.size 0 dk).drewN k = Sort.grow (w.drewN k) os := by
  rw [Sort.alloc_eq_grow]
  obtain ⟨os', _, e⟩ := Sort.putRow_grow_new (fun (b : UInt8) => Value.int .u8 (b.toNat : Int)) w #[o] w.heap.size 0 dk (Nat.le_refl _)
  exact ⟨os', by rw [e]; rfl⟩
set_option maxHeartbeats 6400000 in
set_option maxRecDepth 100000 in
theorem fmt72 (u : Nat) (h100 : 100 ≤ u) (hu64 : u < 18446744073709551616) (w : World) (htab : TabP w) : Calls Tryz.prog 57 #[.int .u64 (u : Nat), .int .i64 10] w fun e w' => e = .returned (.string ⟨(Lib.decDigits u).toArray⟩) ∧ Below w.heap.size w w' := by
  have z : ¬ (u : Int) < 100 := by omega
  have hu1 : 1 ≤ u := by omega
  have hnd20 : Lib.nDigits u ≤ 20 := by have := Lib.numDigits_eq u hu1 hu64; split at this <;> omega
  have hal : Tryz.prog.arrayLen 141 = 24 := by kernel_rfl
  have hsl : ∀ W, (Instr.sliceAt 141 (.pointer (some ⟨w.heap.size, 0, none⟩)) none (some (.int .i64 (Lib.nDigits u : Int))) none).run Tryz.prog W = .ok (.slice (some ⟨w.heap.size, 0, none⟩) (Lib.nDigits u) 24) W := fun W => by
    rw [run_sliceAt_array_h W 141 ⟨w.heap.size, 0, none⟩ (by kernel_rfl) .i64 (Lib.nDigits u : Int) (by omega) (by rw [hal]; omega)]
    go_simp
  have hH0 := holds0 w 141 (Lib.nDigits u) (by omega)
  have hfmt := Tryz.internal_strconv_formatBase10 w.heap.size 0 24 u (Array.replicate (Lib.nDigits u) 0) (w.alloc (.cells Lib.zeros24 141)) hH0 (by rw [Array.size_replicate]; exact Lib.lt_pow_nDigits u) hu64 (by rw [Array.size_replicate]; omega)
  rw [Array.size_replicate] at hfmt
  have HH0 := hide hH0
  have HF0 := hide hfmt
  have HT := hide htab
  clear hH0 hal htab hfmt
  go_enter Tryz.func57, Tryz.ntmps57
  go_wp2_with fail
  refine (Tryz.internal_strconv_numDigits u hu1 hu64 _ (Lib.tabIs_alloc (unhide HT) _)).mono ?_
  rintro e w' ⟨rfl, rfl⟩
  go_wp2_with fail
  refine (unhide HF0).mono ?_
  rintro e w' ⟨rfl, k, v', dk, rfl, hF⟩
  have hcv : (convert 120 9 (.slice (some ⟨w.heap.size, 0, none⟩) (Lib.nDigits u) 24)).run Tryz.prog ((putRow (fun (b : UInt8) => Value.int .u8 (b.toNat : Int)) (w.alloc (.cells Lib.zeros24 141)) w.heap.size 0 dk).drewN k) = .ok (.string ⟨(Lib.decDigits u).toArray⟩) ((putRow (fun (b : UInt8) => Value.int .u8 (b.toNat : Int)) (w.alloc (.cells Lib.zeros24 141)) w.heap.size 0 dk).drewN k) := by
    have h := run_convert_bytes_back (P := Tryz.prog) ((putRow (fun (b : UInt8) => Value.int .u8 (b.toNat : Int)) (w.alloc (.cells Lib.zeros24 141)) w.heap.size 0 dk).drewN k) 120 9 5 ⟨w.heap.size, 0, none⟩ 24 (Lib.decDigits u) Tryz.underlying120 Tryz.underlying5 Tryz.underlying9 (fun j hj => by
      rw [Lib.row_is_numeral hF j hj, Lib.add_plain, World.cell?_drewN]
      exact cell?_putRow (fun (b : UInt8) => Value.int .u8 (b.toNat : Int)) _ w.heap.size 0 _ dk (unhide HH0) (by rw [hF.size, Array.size_replicate]) j (by rw [hF.size]; rw [Lib.decDigits_length] at hj; exact hj))
    rw [Lib.decDigits_length] at h
    exact h
  go_wp2
  go_ret
  obtain ⟨os, eo⟩ := fin0 w (.cells Lib.zeros24 141) dk k
  refine ⟨rfl, ?_⟩
  rw [eo]
  exact Lib.below_grow _ _ (Nat.le_refl _) _ _

def dStr (u : Nat) : ByteArray := ⟨(Lib.decDigits u).toArray⟩
theorem fmt46 (u : Nat) (hu : u < 18446744073709551616) (w : World) (htab : TabP w) : Calls Tryz.prog 36 #[.int .u64 (u : Nat), .int .i64 10] w fun e w' => e = .returned (.string (dStr u)) ∧ Below w.heap.size w w' := by
  have H72 : Hid (∀ w, TabP w → Calls Tryz.prog 57 #[.int .u64 (u : Nat), .int .i64 10] w fun e w' => e = .returned (.string (dStr u)) ∧ Below w.heap.size w w') := hide (fun w hT => by
    by_cases h : u < 100
    · exact (small72 u h w).mono (fun e w' h => ⟨h.1, h.2 ▸ Below.refl _ _⟩)
    · exact fmt72 u (by omega) hu w hT)
  have HT := hide htab
  clear htab
  generalize dStr u = s at *
  go_enter Tryz.func36, Tryz.ntmps36
  go_wp2_with fail
  refine (unhide H72 _ (unhide HT)).mono ?_
  rintro _ w1 ⟨rfl, hb⟩
  go_wp2
  go_ret
  exact ⟨rfl, hb⟩
end
section
open Go Go.Proofs Go.RowKit
/-- append onto one's own row: the row's block is the old one, or a new one. -/
theorem append_fresh (w : World) (base : Nat) (t ty e : TypeId) (i : TypeInfo) (z : Value) (size bytes : Nat) (ht : Tryz.prog.underlying t = some (.slice e)) (hi : Tryz.prog.info? e = some i) (hz : i.zero = some z)
    (hsize : i.size = size) (hby : i.bytes = bytes) (hzs : z.cells.size = size) (hsz : 0 < size) (v : Value) (n : Nat) (xs : List Value) (hown : w.ownsRow base e size v n xs)
    (a : Addr) (m c : Nat) (news : List Value) (hl : news.length = m * size) (hnews : ∀ j u, news[j]? = some u → w.cell? (a.add j) = some u) (h1 : ∀ u ∈ news, u.oneCell' = true)
    (h63 : n + m ≤ maxLen) (hbytes : (n + m) * bytes ≤ 140737488355328) (hbase : base ≤ w.heap.size) :
    ∃ v' w', (Builtin.append_ #[t, t] ty #[v, .slice (some a) m c]).run Tryz.prog w = .ok v' w' ∧ w'.ownsRow base e size v' (n + m) (xs ++ news) ∧ w.grownBy w' v.ownBlock ∧ (v'.ownBlock = v.ownBlock ∨ v'.ownBlock = some w.heap.size) := by
  obtain ⟨v', w', hr, ho, hg, hiff⟩ := run_append_own w base t ty e i z size bytes ht hi hz hsize hby hzs hsz v n xs hown a m c news hl hnews h1 h63 hbytes hbase
  refine ⟨v', w', hr, ho, hg, ?_⟩
  have hm : n + m ≤ 9223372036854775807 := by simp only [maxLen] at h63; omega
  have inj : ∀ {v2 : Value} {w2 : World}, (Builtin.append_ #[t, t] ty #[v, .slice (some a) m c]).run Tryz.prog w = .ok v2 w2 → v' = v2 := fun h2 => by
    rw [hr] at h2
    injection h2
  subst hsize
  subst hby
  rcases hown.2 with ⟨rfl, rfl⟩ | ⟨g, cap, cur, rfl, hbg, hgg, hnc, hcm, hcs, htake⟩
  · by_cases h0 : m = 0
    · exact Or.inl (by rw [hiff.2 ⟨rfl, h0⟩])
    · right
      have hb := hbytes
      rw [Nat.zero_add] at hb
      rw [inj (run_append_nil w t ty e i z ht hi hz a m c news hl hnews (by omega) (by omega) (by omega))]
      rfl
  · by_cases hroom : n + m ≤ cap
    · left
      have hfit : n * i.size + news.length ≤ cur.size := by rw [hl, hcs, ← Nat.add_mul]; exact Nat.mul_le_mul_right _ hroom
      rw [inj (run_append_room w t ty e i ht hi g n cap cur hgg a m c news hl hnews h1 hroom hfit)]
      rfl
    · right
      rw [inj (run_append_grow w t ty e i z ht hi hz ⟨g, 0, none⟩ n cap xs hown.1 (hown.cells (g := g) rfl) a m c news hl hnews (by omega) (by omega) (growslice_fits (by omega) hbytes))]
      rfl
def Fresh (w : World) (v v' : Value) : Prop := v'.ownBlock = v.ownBlock ∨ v'.ownBlock = some w.heap.size
section
variable {ops : Array Oper} {rest : List Oper} {o : Oper} {a : Act} {w : World} {Q : Exit → Act → World → Prop} {s x : Operand} {base : Nat} {l m : List KK} {v u : Value}
theorem wp_append_kf {K : Act → World → Prop} (ho : o.op = .call { callee := .builtin .append, args := #[s, x], argTypes := #[199, 199] }) (hs : a.eval s = v) (hx : a.eval x = u) (hown : OwnK w base v l) (hu : ReadsK w u m) (hcap : ∀ c, u = .slice none 0 c → c = 0)
    (hn : l.length + m.length ≤ 6000000) (hbase : base ≤ w.heap.size)
    (h : ∀ v' w', OwnK w' base v' (l ++ m) → w.grownBy w' v.ownBlock → Fresh w v v' → K (a.put o.dst v') w') : o.wp Tryz.prog a w K Q := by
  obtain ⟨i0, hi, hz0, hz1, hz2⟩ := info_parts info23w
  have main : ∀ ad c, u = .slice (some ad) m.length c → (∀ j u, (flatK m)[j]? = some u → w.cell? (ad.add j) = some u) → o.wp Tryz.prog a w K Q := fun ad c hu' hc => by
    obtain ⟨v', w', hrun, h1, h2, h3⟩ := append_fresh w base 199 o.type 42 i0 _ 2 24 Tryz.underlying199 hi hz0 hz1 hz2 rfl (by decide) v l.length (flatK l) hown ad m.length c (flatK m) (flatK_length m) hc (flatK_cell m) (by unfold maxLen; omega) (by omega) hbase
    have hK := h v' w' (by unfold OwnK; rw [flatK_append, List.length_append]; exact h1) h2 h3
    subst hu'
    unfold Oper.wp
    simp [execOp, ho, resolve, invoke, builtin, hs, hx, hrun, Result.andThen]
    exact hK
  rcases hu with ⟨A, c, rfl, rfl⟩ | ⟨b, off, cap, rfl, hlt, hc⟩
  · cases A with
    | none =>
      obtain rfl := hcap c rfl
      have hrun := run_append_owned_none (P := Tryz.prog) (w := w) base 199 o.type 42 i0 2 Tryz.underlying199 hi v l.length (flatK l) hown
      have hK := h v w (by simpa using hown) ⟨rfl, rfl, rfl, Nat.le_refl _, fun _ _ _ => rfl⟩ (Or.inl rfl)
      unfold Oper.wp
      simp [execOp, ho, resolve, invoke, builtin, hs, hx, hrun, Result.andThen]
      exact hK
    | some ad => exact main ad c rfl (fun j u hu => by simp [flatK] at hu)
  · exact main _ cap rfl (fun j u hu => by
      have := rowsK_iff.1 hc j u hu
      by_cases e : j = 0
      · subst e; simpa [Addr.add] using this
      · simpa [Addr.add, e] using this)
theorem append_kf (hgd : o.guard = none) (ho : o.op = .call { callee := .builtin .append, args := #[s, x], argTypes := #[199, 199] }) (hs : a.eval s = v) (hx : a.eval x = u) (hown : OwnK w base v l) (hu : ReadsK w u m) (hcap : ∀ c, u = .slice none 0 c → c = 0)
    (hn : l.length + m.length ≤ 6000000) (hbase : base ≤ w.heap.size)
    (h : ∀ v' w', OwnK w' base v' (l ++ m) → w.grownBy w' v.ownBlock → Fresh w v v' → wpList Tryz.prog ops Q rest (a.put o.dst v') w') : wpList Tryz.prog ops Q (o :: rest) a w :=
  wpList_plain hgd fun _ hK => wp_append_kf ho hs hx hown hu hcap hn hbase (fun v' w' h1 h2 h3 => hK _ _ (h v' w' h1 h2 h3))
/-- Rows of indices. -/
def OwnU (w : World) (base : Nat) (v : Value) (d : List Nat) : Prop := w.ownsRow base 56 1 v d.length (d.map encU)
theorem info41w : (Tryz.prog.info? 56).map (fun i => (i.zero, i.size, i.bytes)) = some (some (.int .u32 0), 1, 4) := by kernel_rfl
theorem append_uf {d : List Nat} {n : Nat} {B : Nat} (hgd : o.guard = none) (ho : o.op = .call { callee := .builtin .append, args := #[s, x], argTypes := #[270, 270] }) (hs : a.eval s = v) (hx : a.eval x = .slice (some ⟨B, 0, none⟩) 1 1) (hown : OwnU w base v d) (hB : w.cell? ⟨B, 0, none⟩ = some (.int .u32 (n : Nat)))
    (hn : d.length ≤ 6000000) (hbase : base ≤ w.heap.size)
    (h : ∀ v' w', OwnU w' base v' (d ++ [n]) → w.grownBy w' v.ownBlock → Fresh w v v' → wpList Tryz.prog ops Q rest (a.put o.dst v') w') : wpList Tryz.prog ops Q (o :: rest) a w := by
  obtain ⟨i0, hi, hz0, hz1, hz2⟩ := info_parts info41w
  refine wpList_plain hgd fun K hK => ?_
  obtain ⟨v', w', hrun, h1, h2, h3⟩ := append_fresh w base 270 o.type 56 i0 _ 1 4 Tryz.underlying270 hi hz0 hz1 hz2 rfl (by decide) v d.length (d.map encU) hown ⟨B, 0, none⟩ 1 1 [.int .u32 (n : Nat)] rfl (fun j u hj => by
    obtain rfl : j = 0 := by
      have := (List.getElem?_eq_some_iff.1 hj).1
      simpa using this
    have e : Value.int .u32 (n : Nat) = u := by simpa using hj
    subst e
    simpa [Addr.add] using hB) (fun u hu => by
    obtain rfl : u = .int .u32 (n : Nat) := by simpa using hu
    rfl) (by unfold maxLen; omega) (by omega) hbase
  have hP := hK _ _ (h v' w' (by unfold OwnU; rw [List.length_append, List.map_append]; exact h1) h2 h3)
  unfold Oper.wp
  simp [execOp, ho, resolve, invoke, builtin, hs, hx, hrun, Result.andThen]
  exact hP
theorem kbuildU {n : Nat} (hw : Region.wanted o (yielded ops a.tmps) = true) (ho : o.op = .buildSlice 270 1 #[(0, x)]) (hx : a.eval x = .int .u32 (n : Nat))
    (h : ∀ X, X.cell? ⟨w.heap.size, 0, none⟩ = some (.int .u32 (n : Nat)) → X.heap.size = w.heap.size + 1 → Below w.heap.size w X → wpList Tryz.prog ops Q rest (a.put o.dst (.slice (some ⟨w.heap.size, 0, none⟩) 1 1)) X) : wpList Tryz.prog ops Q (o :: rest) a w := by
  refine BigFrame.wpList_want hw fun K hK => ?_
  obtain ⟨i0, hi, hz0, hz1, hz2⟩ := info_parts info41w
  refine wp_buildSlice 270 56 1 _ ho #[.int .u32 (n : Nat)] i0 _ Tryz.underlying270 hi hz0 (by rw [hz1]; decide) (by rw [hz1]; decide) ?_ (hK _ _ (h _ (by simp [go_sem]) (by simp) ((Below.refl _ _).alloc (Nat.le_refl _) _)))
  rw [hz1]
  simp only [List.map_toArray, List.map_cons, List.map_nil, hx]
  kernel_rfl
end
theorem OwnU.own {w : World} {base : Nat} {v : Value} {l : List Nat} (h : OwnU w base v l) : ∀ g, v.ownBlock = some g → base ≤ g ∧ g < w.heap.size := World.ownsRow.lt h
theorem OwnU.block {w w' : World} {base : Nat} {v : Value} {l : List Nat} (h : OwnU w base v l) (he : ∀ g, v.ownBlock = some g → w'.heap[g]? = w.heap[g]?) : OwnU w' base v l := by
  refine ⟨h.1, ?_⟩
  rcases h.2 with h | ⟨g', c', cur, rfl, h1, h2, h3⟩
  · exact .inl h
  · exact .inr ⟨_, c', cur, rfl, h1, (he g' rfl).trans h2, h3⟩
/-- Two rows whose blocks are not the same. -/
def Apart (v u : Value) : Prop := ∀ g, v.ownBlock = some g → u.ownBlock ≠ some g
theorem Apart.symm {v u : Value} (h : Apart v u) : Apart u v := fun g hu hv => h g hv hu
theorem Apart.fresh {w : World} {v v' u : Value} (h : Apart v u) (hf : Fresh w v v') (hu : ∀ g, u.ownBlock = some g → g < w.heap.size) : Apart v' u := by
  intro g hg he
  rcases hf with e | e
  · exact h g (e ▸ hg) he
  · rw [e] at hg
    have h1 := hu g he
    have h2 : w.heap.size = g := by simpa using hg
    omega
/-- The three rows of 'ordered'. -/
structure R3 (w W : World) (v3 v4 v5 : Value) (d : List Nat) (ks ys : List KK) : Prop where
  below : Below w.heap.size w W
  o3 : OwnU W w.heap.size v3 d
  o4 : OwnK W w.heap.size v4 ks
  o5 : OwnK W w.heap.size v5 ys
  a34 : Apart v3 v4
  a35 : Apart v3 v5
  a45 : Apart v4 v5
theorem R3.nil (w : World) : R3 w w (.slice none 0 0) (.slice none 0 0) (.slice none 0 0) [] [] [] :=
  ⟨Below.refl _ _, ⟨rfl, .inl ⟨rfl, rfl⟩⟩, OwnK.nil _ _, OwnK.nil _ _, (fun g h => by cases h), (fun g h => by cases h), (fun g h => by cases h)⟩
section
variable {w W W' : World} {v3 v4 v5 v' : Value} {d : List Nat} {ks ys : List KK}
theorem R3.on (h : R3 w W v3 v4 v5 d ks ys) (hb : Below W.heap.size W W') : R3 w W' v3 v4 v5 d ks ys :=
  ⟨h.below.trans (hb.mono h.below.size), h.o3.block (fun g hg => hb.block g (h.o3.own g hg).2), h.o4.on hb, h.o5.on hb, h.a34, h.a35, h.a45⟩
theorem R3.put3 {n : Nat} (h : R3 w W v3 v4 v5 d ks ys) (ho : OwnU W' w.heap.size v' (d ++ [n])) (hg : W.grownBy W' v3.ownBlock) (hf : Fresh W v3 v') : R3 w W' v' v4 v5 (d ++ [n]) ks ys :=
  ⟨h.below.grown hg h.below.size (fun k hk => (h.o3.own k hk).1), ho, h.o4.block (fun g hg' => hg.block g (h.o4.own g hg').2 (fun e => h.a34 g e.symm hg')), h.o5.block (fun g hg' => hg.block g (h.o5.own g hg').2 (fun e => h.a35 g e.symm hg')),
    h.a34.fresh hf (fun g hg => (h.o4.own g hg).2), h.a35.fresh hf (fun g hg => (h.o5.own g hg).2), h.a45⟩
theorem R3.put4 {n : List KK} (h : R3 w W v3 v4 v5 d ks ys) (ho : OwnK W' w.heap.size v' (ks ++ n)) (hg : W.grownBy W' v4.ownBlock) (hf : Fresh W v4 v') : R3 w W' v3 v' v5 d (ks ++ n) ys :=
  ⟨h.below.grown hg h.below.size (fun k hk => (h.o4.own k hk).1), h.o3.block (fun g hg' => hg.block g (h.o3.own g hg').2 (fun e => h.a34 g hg' e.symm)), ho, h.o5.block (fun g hg' => hg.block g (h.o5.own g hg').2 (fun e => h.a45 g e.symm hg')),
    (h.a34.symm.fresh hf (fun g hg => (h.o3.own g hg).2)).symm, h.a35, h.a45.fresh hf (fun g hg => (h.o5.own g hg).2)⟩
theorem R3.put5 {n : List KK} (h : R3 w W v3 v4 v5 d ks ys) (ho : OwnK W' w.heap.size v' (ys ++ n)) (hg : W.grownBy W' v5.ownBlock) (hf : Fresh W v5 v') : R3 w W' v3 v4 v' d ks (ys ++ n) :=
  ⟨h.below.grown hg h.below.size (fun k hk => (h.o5.own k hk).1), h.o3.block (fun g hg' => hg.block g (h.o3.own g hg').2 (fun e => h.a35 g hg' e.symm)), h.o4.block (fun g hg' => hg.block g (h.o4.own g hg').2 (fun e => h.a45 g hg' e.symm)), ho,
    h.a34, (h.a35.symm.fresh hf (fun g hg => (h.o3.own g hg).2)).symm, (h.a45.symm.fresh hf (fun g hg => (h.o4.own g hg).2)).symm⟩
end
theorem ret23 {fn : Func} {R : Ending → World → Prop} {a : Act} {w : World} {b r : Nat} {d : KK} (hr : fn.results = #[.cell r 42]) (hdf : a.defers = [])
    (hx : a.tmps.getD r undef = .pointer (some ⟨b, 0, none⟩)) (hc : KLies w b d) (h : R (.returned (d.agg)) w) : bodyPost Tryz.prog fn R .ret a w := by
  obtain ⟨t, hu, hd⟩ := isrow23
  have hl := run_loadVar_mid (P := Tryz.prog) w b 0 42 _ t hc.range hu hd info23
  refine ⟨hdf, _, ?_, h⟩
  simp only [Array.getD_eq_getD_getElem?] at hx
  unfold results
  simp [hr, hx, hl, asAddr]
  try rfl
set_option maxHeartbeats 20000000 in
set_option maxRecDepth 100000 in
theorem fromIndex32 (u : Nat) (hu : u ≤ 4294967295) (w : World) (htab : TabP w) : Calls Tryz.prog 19 #[.int .u32 (u : Nat)] w fun e w' => e = .returned (KK.agg ⟨dStr u, 0⟩) ∧ Below w.heap.size w w' := by
  have H46 := hide (fun w hT => fmt46 u (by omega) w hT)
  have HT := hide htab
  clear htab
  have wu : IntKind.u64.wrap (u : Int) = u := by rw [IntKind.wrap_u64]; omega
  have LL := hide (Kq.nil w)
  generalize dStr u = s at *
  go_enter Tryz.func19, Tryz.ntmps19
  go_wp2_with (first | go_skip | ((with_reducible apply kalloc23); (case ho => rfl); (case hw => rfl); (case hL => exact unhide LL); (intro X LX hbX; simp only [Act.put, List.setIfInBounds_toArray, List.set_cons_succ, List.set_cons_zero]; simp only [List.cons_append, List.nil_append] at LX; replace LL := hide LX; clear LX hbX)) | ((with_reducible apply kstore23 (u := ⟨s, 0⟩) (l := []) (d := zeroK)); (case ho => rfl); (case hw => rfl); (case hL => exact unhide LL); (case hx => rfl); (case hy => rfl); (case hm => rfl); (case hne => exact fun q hq => by cases hq); (intro X LX hgX hsX; simp only [Act.put, List.setIfInBounds_toArray, List.set_cons_succ, List.set_cons_zero]; simp only [List.cons_append, List.nil_append] at LX; replace LL := hide LX; clear LX hgX hsX)))
  refine (unhide H46 _ ((unhide HT).on (unhide LL).below)).mono ?_
  rintro _ w1 ⟨rfl, hb⟩
  replace LL := hide ((unhide LL).on hb)
  clear hb
  go_wp2_with (first | go_skip | ((with_reducible apply kalloc23); (case ho => rfl); (case hw => rfl); (case hL => exact unhide LL); (intro X LX hbX; simp only [Act.put, List.setIfInBounds_toArray, List.set_cons_succ, List.set_cons_zero]; simp only [List.cons_append, List.nil_append] at LX; replace LL := hide LX; clear LX hbX)) | ((with_reducible apply kstore23 (u := ⟨s, 0⟩) (l := []) (d := zeroK)); (case ho => rfl); (case hw => rfl); (case hL => exact unhide LL); (case hx => rfl); (case hy => rfl); (case hm => rfl); (case hne => exact fun q hq => by cases hq); (intro X LX hgX hsX; simp only [Act.put, List.setIfInBounds_toArray, List.set_cons_succ, List.set_cons_zero]; simp only [List.cons_append, List.nil_append] at LX; replace LL := hide LX; clear LX hgX hsX)))
  refine ret23 rfl rfl rfl ((unhide LL).get 0 rfl) ?_
  exact ⟨rfl, (unhide LL).below⟩
end
end Go.Proofs.YthilnaeomkppaaaGreatFmt
namespace Go.Proofs.YthilnaeomkppaaaGreatFmt
set_option maxHeartbeats 2000000
section
open Go Go.Proofs Go.Maps Go.RowKit
section
variable {md : Region.Mode} {ops : Array Oper} {rest : List Oper} {Q : Exit → Act → World → Prop} {S : World → Prop} {w w0 : World} {fuel : Nat} {listed : Array Bool} {a : Act} {o : Oper}
theorem own_form {w : World} {base e size n : Nat} {v : Value} {xs : List Value} (h : w.ownsRow base e size v n xs) : ∃ A c, v = .slice A n c := by
  rcases h.2 with ⟨rfl, rfl⟩ | ⟨g, cap, cur, rfl, -⟩
  · exact ⟨_, _, rfl⟩
  · exact ⟨_, _, rfl⟩
/-- append onto one's own row, of any type. -/
theorem append_any {t e : TypeId} {size bytes n m c B base : Nat} {z v : Value} {xs news : List Value} {s x : Operand} (hgd : o.guard = none) (ho : o.op = .call { callee := .builtin .append, args := #[s, x], argTypes := #[t, t] }) (hs : a.eval s = v) (hx : a.eval x = .slice (some ⟨B, 0, none⟩) m c)
    (ht : Tryz.prog.underlying t = some (.slice e)) (hi : (Tryz.prog.info? e).map (fun i => (i.zero, i.size, i.bytes)) = some (some z, size, bytes)) (hz : z.cells.size = size) (hsz : 0 < size) (hown : w.ownsRow base e size v n xs) (hB : Holds w B news) (hl : news.length = m * size) (h1 : ∀ u ∈ news, u.oneCell' = true)
    (hn : n + m ≤ 4000000) (hby : bytes ≤ 10000) (hbase : base ≤ w.heap.size)
    (h : ∀ A c w', w'.ownsRow base e size (.slice A (n + m) c) (n + m) (xs ++ news) → w.grownBy w' v.ownBlock → Fresh w v (.slice A (n + m) c) → wpList Tryz.prog ops Q rest (a.put o.dst (.slice A (n + m) c)) w') : wpList Tryz.prog ops Q (o :: rest) a w := by
  obtain ⟨i0, hi, hz0, hz1, hz2⟩ := info_parts hi
  refine wpList_plain hgd fun K hK => ?_
  obtain ⟨v', w', hrun, h2, h3, h4⟩ := append_fresh w base t o.type e i0 _ size bytes ht hi hz0 hz1 hz2 hz hsz v n xs hown ⟨B, 0, none⟩ m c news hl (fun j u hj => by
    rw [Addr.add_mid]
    exact hB.2 j u hj) h1 (by unfold maxLen; omega) (Nat.le_trans (Nat.mul_le_mul hn hby) (by decide)) hbase
  obtain ⟨A', c', rfl⟩ := own_form h2
  have hP := hK _ _ (h A' c' w' h2 h3 h4)
  unfold Oper.wp
  simp [execOp, ho, resolve, invoke, builtin, hs, hx, hrun, Result.andThen]
  exact hP
theorem fold_set (off : Nat) : ∀ (vs : List Value) (j : Nat) (z : Array Value), off + j + vs.length ≤ z.size →
    ((vs.zipIdx j).foldl (fun cs (c, j) => cs.setIfInBounds (off + j) c) z).toList = z.toList.take (off + j) ++ vs ++ z.toList.drop (off + j + vs.length)
  | [], j, z, h => by simp
  | v :: vs, j, z, h => by
    simp only [List.length_cons] at h
    rw [List.zipIdx_cons, List.foldl_cons, fold_set off vs (j + 1) (z.setIfInBounds (off + j) v) (by simp; omega)]
    have hj : off + j < z.toList.length := by simp; omega
    have e1 : (z.setIfInBounds (off + j) v).toList = z.toList.set (off + j) v := by simp
    rw [e1, show off + (j + 1) = off + j + 1 by omega]
    rw [List.take_set, List.drop_set_of_lt (by omega), List.take_succ_eq_append_getElem hj]
    simp only [List.length_cons]
    rw [show off + j + 1 + vs.length = off + j + (vs.length + 1) by omega]
    rw [List.set_append_right _ _ (by simp; omega)]
    have e2 : off + j - (z.toList.take (off + j)).length = 0 := by simp; omega
    rw [e2]
    simp
theorem fill_one (size : Nat) (z : Array Value) (v : Value) (hz : z.size = size) (hv : v.cells.size = size) : Instr.fill (fun i => some (i * size, size)) z [(0, v)] = some v.cells := by
  have e := fold_set 0 v.cells.toList 0 z (by simp; omega)
  unfold Instr.fill
  simp only [Nat.zero_mul]
  rw [if_neg (by simp; omega)]
  unfold Instr.fill
  congr 1
  apply Array.toList_inj.1
  have e3 : v.cells.zipIdx.foldl (fun cs (c, j) => cs.setIfInBounds (0 + j) c) z = (v.cells.toList.zipIdx 0).foldl (fun cs (c, j) => cs.setIfInBounds (0 + j) c) z := by
    rw [← Array.foldl_toList, Array.toList_zipIdx]
  rw [e3, e]
  simp
  omega
/-- A slice of one. -/
theorem build_any {t e : TypeId} {size bytes : Nat} {z v : Value} {cs : List Value} {x : Operand} {E : List Nat} {L : List (Nat × List Value)} (hw : Region.wanted o (yielded ops a.tmps) = true) (ho : o.op = .buildSlice t 1 #[(0, x)]) (hx : a.eval x = v)
    (ht : Tryz.prog.underlying t = some (.slice e)) (hi : (Tryz.prog.info? e).map (fun i => (i.zero, i.size, i.bytes)) = some (some z, size, bytes)) (hs1 : size ≤ 100) (hv : v.cells.toList = cs) (hc : cs.length = size) (h0 : 0 < size) (hL : Hq w0 w E L)
    (h : ∀ X B, B = w.heap.size → Hq w0 X E (L ++ [(B, cs)]) → Below w.heap.size w X → wpList Tryz.prog ops Q rest (a.put o.dst (.slice (some ⟨B, 0, none⟩) 1 1)) X) : wpList Tryz.prog ops Q (o :: rest) a w := by
  refine BigFrame.wpList_want hw fun K hK => ?_
  obtain ⟨i0, hi, hz0, hz1, hz2⟩ := info_parts hi
  have ev : v.cells = cs.toArray := by rw [← hv]
  have es : v.cells.size = size := by rw [ev]; simpa using hc
  refine wp_buildSlice t e 1 _ ho cs.toArray i0 _ ht hi hz0 (by rw [hz1]; omega) (by rw [hz1]; omega) ?_ (hK _ _ (h _ _ rfl (hL.new cs e (by omega)) ((Below.refl _ _).alloc (Nat.le_refl _) _)))
  rw [hz1, ← ev]
  simp only [List.map_toArray, List.map_cons, List.map_nil, hx]
  exact fill_one size _ v (by simp) es
/-! Operations that change the world, in a region that draws its order. -/
theorem gval (i : Nat) (dst : Option Tmp) {V : Value} {X : World} {rs : List Nat} (hi : ops[i]? = some o) (hd : o.dst = dst) (hw : Region.wanted o (yielded ops a.tmps) = true) (he : (execOp a.eval o).run Tryz.prog w = .ok (.value V) X) (hSX : S X)
    (h : wpAnyH Tryz.prog md ops Q S fuel (listed.setIfInBounds i true) (a.put dst V) X) (hs : AllReadyH Tryz.prog md ops Q S fuel listed a w rs) : AllReadyH Tryz.prog md ops Q S fuel listed a w (i :: rs) := by
  subst hd
  refine AllReadyH.cons hi (fun K hK => ?_) hs
  rw [if_pos hw]
  unfold Oper.wp
  rw [he]
  exact hK.out _ _ hSX (fun _ => h)
theorem gskp (i : Nat) (dst : Option Tmp) {X : World} {rs : List Nat} (hi : ops[i]? = some o) (hd : o.dst = dst) (hw : Region.wanted o (yielded ops a.tmps) = true) (he : (execOp a.eval o).run Tryz.prog w = .ok .skip X) (hSX : S X)
    (h : wpAnyH Tryz.prog md ops Q S fuel (listed.setIfInBounds i true) (a.put dst undef) X) (hs : AllReadyH Tryz.prog md ops Q S fuel listed a w rs) : AllReadyH Tryz.prog md ops Q S fuel listed a w (i :: rs) := by
  subst hd
  refine AllReadyH.cons hi (fun K hK => ?_) hs
  rw [if_pos hw]
  unfold Oper.wp
  rw [he]
  exact hK.out _ _ hSX (fun _ => h)
theorem ex_box {v : Value} {x : Operand} (t : TypeId) (cs : List Value) (ho : o.op = .box t x) (hx : a.eval x = v) (hv : v.cells.toList = cs) : (execOp a.eval o).run Tryz.prog w = .ok (.value (.pointer (some ⟨w.heap.size, 0, none⟩))) (w.alloc (Obj.cells cs.toArray t)) := by
  have e : v.cells = cs.toArray := by rw [← hv]
  have e2 : (Instr.box t v).run Tryz.prog w = .ok (.pointer (some ⟨w.heap.size, 0, none⟩)) (w.alloc (Obj.cells cs.toArray t)) := by rw [← e]; rfl
  unfold execOp
  simp only [ho, hx]
  simp [e2]
theorem ex_upd {m x y : Operand} {b n sz r : Nat} {F : KK → Option Nat} {k : KK} (ho : o.op = .mapUpdate 112 m x y) (hm : a.eval m = .map (some b)) (hx : a.eval x = k.agg) (hy : a.eval y = pv (some r)) (h : MapIs w b n sz F) (hk : OkK k) (hn : n < maxLen) :
    ∃ X, (execOp a.eval o).run Tryz.prog w = .ok .skip X ∧ MapIs X b (n + 1) (if (F k).isSome then sz else sz + 1) (putF F k (some r)) ∧ Fr w X [b] := by
  obtain ⟨X, h1, h2, h3⟩ := h.store hk hn r
  refine ⟨X, ?_, h2, Fr.grown h3.grown⟩
  unfold execOp
  simp only [ho, hm, hx, hy]
  simp [h1]
end
