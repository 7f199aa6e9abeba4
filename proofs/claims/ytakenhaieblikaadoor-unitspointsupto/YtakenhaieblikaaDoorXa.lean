import Derived.Test.YtakenhaieblikaaDoorWz
namespace Go.Proofs.YtakenhaieblikaaDoor
open Go.RowKit Go.Shelf
attribute [local go_sem] Oper.semAt_some

def weB (s : ByteArray) : Bool := vS s && Lib.validD s.data.toList
set_option maxHeartbeats 1000000 in
set_option maxRecDepth 100000 in
theorem well_any (s : ByteArray) (hsz : s.size ≤ 1099511627776) (w : World) (hT : Lib.Utf8Tabs 0 1 w) :
    Calls Tryd.prog 13 #[.string s] w fun e w' => e = .returned (.tuple #[.bool (weB s), .int .i64 (erS s)]) ∧ Below w.heap.size w w' := by
  have hva := valid_any s w hT
  have HV := hide (fun w hT => Tryd.valid_string s w (by omega) hT)
  have HT := hide hT; clear hT
  cases hv : vS s with
  | false =>
    have h1 : weB s = false := by unfold weB; rw [hv]; rfl
    rw [h1, erS_bad' hv]
    unfold vS at hv
    rw [hv] at hva
    have HVA := hide hva; clear hva hv h1
    go_enter Tryd.func13, Tryd.ntmps13
    go_wp2_with fail
    refine (unhide HVA).mono ?_
    rintro e w1 ⟨rfl, hb⟩
    go_wp2
    go_ret2
    exact ⟨rfl, hb⟩
  | true =>
    have h1 : weB s = Lib.validD s.data.toList := by unfold weB; rw [hv]; rfl
    rw [h1, erS_ok' hv]
    unfold vS at hv
    rw [hv] at hva
    generalize Lib.validD s.data.toList = q at *
    have HVA := hide hva; clear hva hv h1
    go_enter Tryd.func13, Tryd.ntmps13
    go_wp2_with fail
    refine (unhide HVA).mono ?_
    rintro e w1 ⟨rfl, hb⟩
    go_wp2_with fail
    refine (unhide HV w1 (tabs_below (unhide HT) hb)).mono ?_
    rintro e w2 ⟨rfl, hb2⟩
    go_wp2
    go_ret2
    exact ⟨rfl, hb.trans (hb2.mono hb.size)⟩

theorem string_k (B b : Nat) (l : List UInt8) (w : World) (h : Lib.IsBuilderF 72 5 B b (Lib.byteCells l) w) (hBw : B ≤ w.heap.size) :
    Calls Tryd.prog 41 #[.pointer (some ⟨b, 0, none⟩)] w fun e w' => e = .returned (.string ⟨l.toArray⟩) ∧ (Lib.IsBuilderF 72 5 B b (Lib.byteCells l) w' ∧ Below B w w' ∧ Lib.OthersKept 5 (some b) w w') := Any.Builder_String_any_k Tryd.blays169 Tryd.bextra B b l w h hBw
theorem builderAt_kept {B b : Nat} {p : Value} {bs : List Value} {X Y : World} {row : Option Nat} (h : Lib.BuilderAtF 72 5 B b p bs X) (hg : X.grownBy Y row) (hr : ∀ r, row = some r → ∃ o : Obj, X.heap[r]? = some o ∧ o.isCells = false) : Lib.BuilderAtF 72 5 B b p bs Y := by
  have key : ∀ (k : Nat) (cs : Array Value) (t : TypeId) (fz : Nat × Nat), X.heap[k]? = some (.cells cs t fz) → Y.heap[k]? = some (.cells cs t fz) := by
    intro k cs t fz hk
    rw [hg.block k (Array.getElem?_eq_some_iff.1 hk).1 (fun e => by
      obtain ⟨o, ho, hc⟩ := hr k e.symm
      rw [hk] at ho; cases ho; cases hc), hk]
  obtain ⟨hB, v, hv, hown, hne⟩ := h
  refine ⟨hB, v, key _ _ _ _ hv, ?_, hne⟩
  obtain ⟨h1, h2 | ⟨g, cap, cur, fz, e1, e2, e3, e4⟩⟩ := hown
  · exact ⟨h1, .inl h2⟩
  · exact ⟨h1, .inr ⟨g, cap, cur, fz, e1, e2, key _ _ _ _ e3, e4⟩⟩
theorem builder_kept {B b : Nat} {bs : List Value} {X Y : World} {row : Option Nat} (h : Lib.IsBuilderF 72 5 B b bs X) (hg : X.grownBy Y row) (hr : ∀ r, row = some r → ∃ o : Obj, X.heap[r]? = some o ∧ o.isCells = false) : Lib.IsBuilderF 72 5 B b bs Y := by
  rcases h with h | h
  · exact .inl (builderAt_kept h hg hr)
  · exact .inr (builderAt_kept h hg hr)
theorem builder_cells {B b : Nat} {bs : List Value} {X : World} (h : Lib.IsBuilderF 72 5 B b bs X) : ∃ c t fz, X.heap[b]? = some (.cells c t fz) := by
  rcases h with ⟨_, v, hv, _⟩ | ⟨_, v, hv, _⟩ <;> exact ⟨_, _, _, hv⟩
theorem keeps_of {B b : Nat} {bs : List Value} {X Y : World} (h : Lib.IsBuilderF 72 5 B b bs X) (hk : Lib.OthersKept 5 (some b) X Y) (hs : X.heap.size ≤ Y.heap.size) : KeepsOthers X Y := by
  obtain ⟨c, t, fz, hb⟩ := builder_cells h
  refine ⟨hs, fun k o ho hc => hk k o ho (fun e => ?_) (fun c' fz' e => ?_)⟩
  · cases e; rw [hb] at ho; cases ho; cases hc
  · subst e; cases hc
def repN (pre : List PT) : List Nat := pre.flatMap fun x => M.E (M.rep x.1.2)
theorem repN_snoc (l : List PT) (x : PT) : repN (l ++ [x]) = repN l ++ M.E (M.rep x.1.2) := by simp [repN]
theorem repN_len (l : List PT) : (repN l).length ≤ 4 * l.length := by
  induction l with
  | nil => simp [repN]
  | cons x r ih => have := (M.E_len (M.rep x.1.2)).2; simp only [repN, List.flatMap_cons, List.length_append, List.length_cons] at *; omega
theorem repN_pts : ∀ (k : Nat) (cs : List CP), repN (pts k cs) = ((cs.map (·.1)).map M.rep).flatMap M.E
  | _, [] => rfl
  | k, c :: r => by
    have := repN_pts (k + wid c.1) r
    simp only [repN, pts, List.flatMap_cons, List.map_cons] at *
    rw [this]
theorem repN_256 (l : List PT) : ∀ x ∈ repN l, x < 256 := by
  intro x hx
  obtain ⟨y, hy, h⟩ := List.mem_flatMap.1 hx
  refine E_256 (M.rep y.1.2) ?_ x h
  unfold M.rep; split
  · omega
  · exact y.2
theorem cells_back (l : List Nat) (h : ∀ x ∈ l, x < 256) : Lib.byteCells (l.map UInt8.ofNat) = l.map u8v := by
  unfold Lib.byteCells
  rw [List.map_map]
  apply List.map_congr_left
  intro x hx
  have := h x hx
  simp only [Function.comp, u8v]
  congr 1
  simp [UInt8.toNat_ofNat']
  omega

set_option maxHeartbeats 2000000 in
set_option maxRecDepth 100000 in
theorem text_good (s : ByteArray) (cs : List CP) (hs : nums s = bytes cs) (hv : vS s = true) (hsz : s.size ≤ 1099511627776) (w : World) (hT : Lib.Utf8Tabs 0 1 w) :
    Calls Tryd.prog 9 #[.string s] w fun e w' => ∃ t, e = .returned (.tuple #[.string t, .int .i64 0]) ∧ nums t = ((cs.map (·.1)).map M.rep).flatMap M.E ∧ Below w.heap.size w w' := by
  have hva := valid_any s w hT
  unfold vS at hv
  rw [hv] at hva
  have HV := hide hva; clear hva hv
  have HS := hide hs; clear hs
  have hcs : cs.length ≤ s.size := by rw [← nums_len, unhide HS]; exact bytes_len cs
  have hs' : (s.size : Int) ≤ 1099511627776 := by omega
  refine (callsIn_wide (n := 5)).1 ?_
  refine callsIn_of_wp_marks Tryd.func9 rfl trivial ?_ rfl
  simp only [Tryd.ntmps9, List.size_toArray, List.length_cons, List.length_nil, Nat.reduceAdd, Nat.reduceSub, Array.replicate_succ, Array.replicate_zero, List.push_toArray, List.append_toArray, List.nil_append, List.cons_append]
  gi_wp2_with fail
  refine ⟨trivial, (callsIn_wide.2 (unhide HV)).mono ?_⟩
  rintro e w1 ⟨rfl, hb⟩
  gi_wp2_with fail
  have hbk0 : (w1.alloc (.cells #[.pointer none, .slice none 0 0] 72)).heap[w1.heap.size]? = some (.cells #[.pointer none, .slice none 0 0] 72 (0, 0)) := by
    show (w1.heap.push _)[w1.heap.size]? = _
    simp
  refine ⟨trivial, (callsIn_wide.2 (Tryd.grow_fresh w1.heap.size w1.heap.size s.size _ (Nat.le_refl _) hbk0 (by simp) (by omega))).mono ?_⟩
  rintro e w2 ⟨rfl, hbd, hb2⟩
  gi_wp2_with fail
  refine ⟨trivial, (callsIn_wide.2 (walk_any s _)).mono ?_⟩
  rintro e w' ⟨rfl, rfl⟩
  gi_wp2_with fail
  have h2w := tabs_size hT
  have hszm := hb.size
  have hlt2 : w1.heap.size < w2.heap.size := by have := hb2.size; simp at this; omega
  have hB1 : Below w.heap.size w (w1.alloc (.cells #[.pointer none, .slice none 0 0] 72)) := hb.alloc hszm _
  have hB2 : Below w.heap.size w w2 := hB1.trans (hb2.mono hszm)
  have bN := Boxed.new w2 9 (.string s)
  have hB0 : Below w.heap.size w (w2.alloc (.cells #[.string s] 9)) := hB2.alloc hB2.size _
  refine wpIn_rangeFunc_ownG rfl (by omega) (gf := 64) (lb := #[.pointer (some ⟨w2.heap.size, 0, none⟩)]) rfl trivial (enters_of Tryd.func64 (by kernel_rfl) rfl)
    (walk_stops 4 (by omega) w2.heap.size w.heap.size s cs (unhide HS) (by omega) _ (by simp) h2w (by simp; omega) bN.cell (tabs_below hT hB0)) belowK_t (belowK_b (by simp; omega)) (Below.refl _ _) (fun _ => rfl)
    (fun pre W => Lib.IsBuilderF 72 5 w1.heap.size w1.heap.size ((repN pre).map u8v) W ∧ Below w.heap.size w W)
    (fun _ _ _ => False)
    (OwnFrom.and (Own.from (I := fun pre W => Lib.IsBuilderF 72 5 w1.heap.size w1.heap.size ((repN pre).map u8v) W) (fun s A B row hs hg hr => builder_kept hs hg hr) _) (ownFrom_below (Nat.le_refl _) (by simp; omega)))
    (fun _ _ _ _ _ hs _ _ => hs)
    ⟨builder_kept (.inr (Lib.BuilderAtF.of hbd)) (World.grownBy_alloc w2 _ none) (fun r e => by cases e), hB0⟩
    (fun x => { tmps := #[.string s, undef, .string { data := #[] }, .int .i64 0, .pointer (some ⟨w1.heap.size, 0, none⟩), undef, .int .i32 (x.1.2 : Nat), .string s, .bool true, .bool false, .string s, .int .i64 s.size, .tuple #[], .string s, .func (.func 64) #[] #[.pointer (some ⟨w2.heap.size, 0, none⟩)], .int .i64 (x.1.1 : Nat), .int .i32 (x.1.2 : Nat), undef, undef, undef, undef, undef], defers := [] }) ?assign ?body ?done ?stop
  case assign =>
    intro l x W K hK
    simp only [encs]
    gi_wp2
    exact hK
  case body =>
    rintro l pre x W ⟨hI, hB⟩ hlt
    have hul := repN_len pre
    have hpl := pts_len 0 cs
    have hx1 := x.2
    have hWs : w1.heap.size ≤ W.heap.size := by
      obtain ⟨c, t, fz, hq⟩ := builder_cells hI
      have := (Array.getElem?_eq_some_iff.1 hq).1; omega
    have hsn := repN_snoc pre x
    by_cases hsu : 55296 ≤ x.1.2 ∧ x.1.2 ≤ 57343
    · have hz : suZ ((x.1.2 : Nat) : Int) = true := by simp [suZ]; omega
      have hr : M.rep x.1.2 = 65533 := by unfold M.rep M.isSu; simp [hsu]
      rw [hr] at hsn
      have HSU := hide (fun w => isSur_any ((x.1.2 : Nat) : Int) w)
      rw [hz] at HSU
      have HWR := hide (Tryd.write_rune w1.heap.size w1.heap.size _ 65533 (by omega) (by omega) W hI (by simp; omega) hWs)
      have HSN := hide hsn; clear hsn
      gi_wp2_with (refine ⟨trivial, ?_⟩; first
        | (gi_at_call 39; refine (CallsIn.inRound l (callsIn_wide.2 (unhide HSU _))).mono ?_; rintro e w' ⟨rfl, rfl⟩)
        | (gi_at_call 40; refine (CallsIn.inRound l (callsIn_wide.2 (unhide HWR))).mono ?_; rintro e W1 ⟨rfl, h1, b1, k1⟩))
      have e1 := rune_E 65533 (by omega) (by omega)
      refine ⟨(keeps_of hI k1 (by have := b1.size; omega)).from _, b1.mono hszm, ?_, hB.trans (b1.mono hszm)⟩
      rw [unhide HSN, List.map_append, ← e1]
      exact .inr h1
    · have hz : suZ ((x.1.2 : Nat) : Int) = false := by simp [suZ]; omega
      have hr : M.rep x.1.2 = x.1.2 := by
        unfold M.rep; rw [if_neg (by simp [M.isSu]; omega)]
      rw [hr] at hsn
      have HSU := hide (fun w => isSur_any ((x.1.2 : Nat) : Int) w)
      rw [hz] at HSU
      have HWR := hide (Tryd.write_rune w1.heap.size w1.heap.size _ ((x.1.2 : Nat) : Int) (by omega) (by omega) W hI (by simp; omega) hWs)
      have HSN := hide hsn; clear hsn
      gi_wp2_with (refine ⟨trivial, ?_⟩; first
        | (gi_at_call 39; refine (CallsIn.inRound l (callsIn_wide.2 (unhide HSU _))).mono ?_; rintro e w' ⟨rfl, rfl⟩)
        | (gi_at_call 40; refine (CallsIn.inRound l (callsIn_wide.2 (unhide HWR))).mono ?_; rintro e W1 ⟨rfl, h1, b1, k1⟩))
      have e1 := rune_E x.1.2 hx1 hsu
      refine ⟨(keeps_of hI k1 (by have := b1.size; omega)).from _, b1.mono hszm, ?_, hB.trans (b1.mono hszm)⟩
      rw [unhide HSN, List.map_append, ← e1]
      exact .inr h1
  case done =>
    rintro D ys W hD rfl ⟨hI, hB⟩ hK
    have hWs : w1.heap.size ≤ W.heap.size := by
      obtain ⟨c, t, fz, hq⟩ := builder_cells hI
      have := (Array.getElem?_eq_some_iff.1 hq).1; omega
    rw [← cells_back _ (repN_256 _)] at hI
    have HST := hide (string_k w1.heap.size w1.heap.size _ W hI hWs)
    gi_wp2_with fail
    refine ⟨trivial, (callsIn_wide.2 (unhide HST)).mono ?_⟩
    rintro e W1 ⟨rfl, hI1, b1, k1⟩
    have hk1 := keeps_of hI k1 (by have := b1.size; omega)
    have hK1 := hk1.same D _ hK rfl
    have hBW := hB.trans (b1.mono hszm)
    gi_wp2
    refine ⟨by simp, .inl ⟨_, _, rfl, run_takeDeferred hK1, ?_⟩⟩
    refine ⟨_, results_tmp2 rfl _ _ _, _, rfl, ?_, hBW.trans (belowK_b (w := w) (Nat.le_refl _) W1 D _ _ (by simp at hD; omega) hK1 rfl rfl)⟩
    rw [nums_of, back_u8 _ (repN_256 _)]
    exact repN_pts 0 cs
  case stop =>
    rintro D c pre W _ _ h _
    exact h.elim
end Go.Proofs.YtakenhaieblikaaDoor
