import Derived.Test.YtakenhaieblikaaDoorXg
import Derived.LoopNIn
namespace Go.Proofs.YtakenhaieblikaaDoor
open Go.RowKit Go.Shelf
attribute [local go_sem] Oper.semAt_some eql_nil1
/-- What turn it is. -/
def turnOf (a : Act) (W : World) : Nat := match a.tmps.getD 11 undef with
  | .pointer (some p) => (intOf ((W.cell? p).getD undef)).toNat
  | _ => 0
def mark (D : Nat) : Deferred := { target := .collected D, args := #[] }
/-- The blocks for deferred calls that the turns so far have left. -/
def marksN (B k : Nat) (ds : List Deferred) (W : World) : Prop :=
  (k = 0 ∧ ds = []) ∨ (k = 1 ∧ ∃ D, ds = [mark D] ∧ B ≤ D ∧ W.heap[D]? = some (.deferred (some []))) ∨
  (k = 2 ∧ ∃ D E, ds = [mark E, mark D] ∧ B ≤ D ∧ D < E ∧ W.heap[D]? = some (.deferred (some [])) ∧ W.heap[E]? = some (.deferred (some [])))
theorem marksN_nil (B : Nat) (W : World) : marksN B 0 [] W := .inl ⟨rfl, rfl⟩
theorem next_turn {B k D Bt Bn : Nat} {ds : List Deferred} {W0 W X : World} (hk2 : ¬ k = 2) (hk : k ≤ 2) (hds : marksN B k ds W) (hBx : Below Bn W X) (hBn : W.heap.size = Bn) (hD : Bn < D) (hK : X.heap[D]? = some (.deferred (some []))) (hxt : Boxed W Bt 3 (.int .i64 (k : Nat))) (hB : Below B W0 X) (hBt : B ≤ Bt) :
    B ≤ X.heap.size ∧ Boxed (X.alloc (.cells #[.int .i64 ((k : Int) + 1)] 3)) X.heap.size 3 (.int .i64 ((k + 1 : Nat) : Int)) ∧ Below B W0 (X.alloc (.cells #[.int .i64 ((k : Int) + 1)] 3)) ∧ marksN B (k + 1) (mark D :: ds) (X.alloc (.cells #[.int .i64 ((k : Int) + 1)] 3)) := by
  have hlt := hxt.lt
  have hsx := hBx.size
  have hBX : B ≤ X.heap.size := by omega
  have hn := Boxed.new X 3 (.int .i64 ((k : Int) + 1))
  have ek : ((k : Int) + 1) = ((k + 1 : Nat) : Int) := by omega
  have hDX : D < X.heap.size := (Array.getElem?_eq_some_iff.1 hK).1
  have hKa : ∀ o, (X.alloc o).heap[D]? = some (.deferred (some [])) := fun o => (Below.heap_alloc _ _ _ hDX).trans hK
  refine ⟨hBX, by rw [← ek]; exact hn, hB.alloc hBX _, ?_⟩
  rcases hds with ⟨rfl, rfl⟩ | ⟨rfl, E, rfl, hE1, hE2⟩ | ⟨h, _⟩
  · exact .inr (.inl ⟨rfl, D, rfl, by omega, hKa _⟩)
  · have hEW : E < W.heap.size := (Array.getElem?_eq_some_iff.1 hE2).1
    have hEX := (hBx.block E (by omega)).trans hE2
    exact .inr (.inr ⟨rfl, E, D, rfl, hE1, by omega, (Below.heap_alloc _ _ _ (by omega)).trans hEX, hKa _⟩)
  · exact absurd h hk2
theorem turn_less {a a' : Act} {W W' : World} {k Bt Bt' : Nat} (hk : (k : Int) < 2) (h : Boxed W Bt 3 (.int .i64 (k : Nat))) (h' : Boxed W' Bt' 3 (.int .i64 ((k + 1 : Nat) : Int))) (ha : a.tmps.getD 11 undef = .pointer (some ⟨Bt, 0, none⟩) := by rfl) (ha' : a'.tmps.getD 11 undef = .pointer (some ⟨Bt', 0, none⟩) := by rfl) : 2 - turnOf a' W' < 2 - turnOf a W := by
  have e1 : turnOf a W = k := by unfold turnOf; rw [ha]; simp only []; rw [h.cell]; simp [intOf]
  have e2 : turnOf a' W' = k + 1 := by unfold turnOf; rw [ha']; simp only []; rw [h'.cell]; simp [intOf]
  rw [e1, e2]; omega
set_option maxHeartbeats 4000000 in
set_option maxRecDepth 100000 in
theorem points_law_bad (s : ByteArray) (stop inner : Int) (hsz : s.size ≤ 1099511627776) (hv : vS s = false) (w : World) (hT : Lib.Utf8Tabs 0 1 w) : Calls Tryd.prog 7 #[.string s, .int .i64 stop, .int .i64 inner] w fun e w' => e = .returned (.bool true) ∧ Below w.heap.size w w' := by
  have hE : erS s = 10 := by unfold erS; rw [hv]; rfl
  have b3 := Boxed.new ((w.alloc (.cells #[.int .i64 stop] 3)).alloc (.cells #[.int .i64 inner] 3)) 4 (.bool false)
  have b4 := Boxed.new (((w.alloc (.cells #[.int .i64 stop] 3)).alloc (.cells #[.int .i64 inner] 3)).alloc (.cells #[.bool false] 4)) 60 (.slice none 0 0)
  simp only [World.size_alloc] at b3 b4
  have hB0 : Below w.heap.size w ((((w.alloc (.cells #[.int .i64 stop] 3)).alloc (.cells #[.int .i64 inner] 3)).alloc (.cells #[.bool false] 4)).alloc (.cells #[.slice none 0 0] 60)) := ((((Below.refl _ w).alloc (Nat.le_refl _) _).alloc (by simp) _).alloc (by simp; omega) _).alloc (by simp; omega) _
  replace b3 := b3.alloc (.cells #[.slice none 0 0] 60)
  refine (callsIn_wide (n := 9)).1 ?_
  refine callsIn_of_wp_marks Tryd.func7 rfl trivial ?_ rfl
  simp only [Tryd.ntmps7, List.size_toArray, List.length_cons, List.length_nil, Nat.reduceAdd, Nat.reduceSub, Array.replicate_succ, Array.replicate_zero, List.push_toArray, List.append_toArray, List.nil_append, List.cons_append]
  gi_wp2_with fail
  generalize ((((w.alloc (.cells #[.int .i64 stop] 3)).alloc (.cells #[.int .i64 inner] 3)).alloc (.cells #[.bool false] 4)).alloc (.cells #[.slice none 0 0] 60)) = w1 at *
  refine ⟨trivial, (callsIn_wide.2 (refUnits_any s hsz w1)).mono ?_⟩
  rintro e w2 ⟨vu, rfl, _, hb2⟩
  rw [hE]
  gi_wp2_with fail
  have hB2 := hB0.trans (hb2.mono hB0.size)
  have k3 := b3.kept (grown_of_below hb2) (by simp)
  have k4 := b4.kept (grown_of_below hb2) (by simp)
  refine ⟨trivial, (callsIn_wide.2 (points_bad s hv w2 (tabs_below hT hB2))).mono ?_⟩
  rintro e w3 ⟨rfl, hb3⟩
  have hB3 := hB2.trans (hb3.mono hB2.size)
  have q3 := (k3.kept (grown_of_below hb3) (by simp)).alloc (.cells #[.func (.func 61) #[] #[]] 63)
  have q4 := (k4.kept (grown_of_below hb3) (by simp)).alloc (.cells #[.func (.func 61) #[] #[]] 63)
  have q6 := Boxed.new w3 63 (.func (.func 61) #[] #[])
  have hB4 : Below w.heap.size w (w3.alloc (.cells #[.func (.func 61) #[] #[]] 63)) := hB3.alloc hB3.size _
  have hsz4 : (w3.alloc (.cells #[.func (.func 61) #[] #[]] 63)).heap.size = w3.heap.size + 1 := by simp
  have hlt4 : w.heap.size + 1 + 1 + 1 < w3.heap.size := Nat.lt_of_lt_of_le k4.lt hb3.size
  clear k3 k4 b3 b4 hb2 hb3 hB0 hB2 hB3 hT hE
  gi_wp2_with fail
  generalize (w3.alloc (.cells #[.func (.func 61) #[] #[]] 63)) = W0 at *
  generalize w3.heap.size = N at *
  have t0 := Boxed.new W0 3 (.int .i64 0)
  rw [hsz4] at t0
  have hL0 : Below (N + 1) W0 (W0.alloc (.cells #[.int .i64 0] 3)) := (Below.refl _ W0).alloc (by omega) _
  generalize W0.alloc (.cells #[.int .i64 0] 3) = W1 at *
  refine wpIn_loop (fun a W => ∃ (k Bt : Nat) (ds : List Deferred) (u12 u13 u14 u15 u23 u24 u29 u30 u31 u32 u33 u34 u35 u36 u37 u38 u39 u40 u41 u42 u43 u44 u45 u46 u47 u48 u49 u50 u51 u52 u53 u54 u55 u56 u57 u58 u59 u60 u61 u62 u63 u64 u65 u66 u67 u68 u69 u70 u71 u72 u73 u74 u75 u76 u77 u78 u79 u80 u81 u82 u83 u84 u85 u86 u87 u88 u89 u90 u91 u92 u93 u94 u95 : Value), a = { tmps := #[.string s, .int .i64 stop, .int .i64 inner, undef, .pointer (some ⟨w.heap.size, 0, none⟩), .pointer (some ⟨w.heap.size + 1, 0, none⟩), .pointer (some ⟨w.heap.size + 1 + 1, 0, none⟩), .pointer (some ⟨w.heap.size + 1 + 1 + 1, 0, none⟩), vu, .int .i64 10, .pointer (some ⟨N, 0, none⟩), .pointer (some ⟨Bt, 0, none⟩), u12, u13, u14, u15, .tuple #[vu, .int .i64 10], .string s, .tuple #[vu, .int .i64 10], vu, .int .i64 10, .int .i64 10, .bool false, u23, u24, .string s, .func (.func 61) #[] #[], .func (.func 61) #[] #[], .bool false, u29, u30, u31, u32, u33, u34, u35, u36, u37, u38, u39, u40, u41, u42, u43, u44, u45, u46, u47, u48, u49, u50, u51, u52, u53, u54, u55, u56, u57, u58, u59, u60, u61, u62, u63, u64, u65, u66, u67, u68, u69, u70, u71, u72, u73, u74, u75, u76, u77, u78, u79, u80, u81, u82, u83, u84, u85, u86, u87, u88, u89, u90, u91, u92, u93, u94, u95], defers := ds } ∧ k ≤ 2 ∧ N + 1 ≤ Bt ∧ Boxed W Bt 3 (.int .i64 (k : Nat)) ∧ Below (N + 1) W0 W ∧ marksN (N + 1) k ds W)
    (fun a W => 2 - turnOf a W) ⟨0, N + 1, [], undef, undef, undef, undef, undef, undef, undef, undef, undef, undef, undef, undef, undef, undef, undef, undef, undef, undef, undef, undef, undef, undef, undef, undef, undef, undef, undef, undef, undef, undef, undef, undef, undef, undef, undef, undef, undef, undef, undef, undef, undef, undef, undef, undef, undef, undef, undef, undef, undef, undef, undef, undef, undef, undef, undef, undef, undef, undef, undef, undef, undef, undef, undef, undef, undef, undef, undef, undef, undef, undef, undef, undef, undef, rfl, by omega, Nat.le_refl _, t0, hL0, marksN_nil _ _⟩ ?round
  rintro a W ⟨k, Bt, ds, u12, u13, u14, u15, u23, u24, u29, u30, u31, u32, u33, u34, u35, u36, u37, u38, u39, u40, u41, u42, u43, u44, u45, u46, u47, u48, u49, u50, u51, u52, u53, u54, u55, u56, u57, u58, u59, u60, u61, u62, u63, u64, u65, u66, u67, u68, u69, u70, u71, u72, u73, u74, u75, u76, u77, u78, u79, u80, u81, u82, u83, u84, u85, u86, u87, u88, u89, u90, u91, u92, u93, u94, u95, rfl, hk, hBt, xt, hB, hds⟩
  clear t0 hL0
  have ct := xt.cell
  have d3 := (hB.cell (p := ⟨w.heap.size + 1 + 1, 0, none⟩) (by show w.heap.size + 1 + 1 < N + 1; omega)).trans q3.cell
  have f3 : W.frozen? ⟨w.heap.size + 1 + 1, 0, none⟩ = false := (hB.frozen (p := ⟨w.heap.size + 1 + 1, 0, none⟩) (by show w.heap.size + 1 + 1 < N + 1; omega)).trans q3.frozen
  have HE := hide (And.intro q4.cell q6.cell)
  have HB6 := hide hB4
  have hXT := hide xt
  have hXB := hide hB
  have hDS := hide hds
  have hbtlt := xt.lt
  clear q3 q4 q6 hB4 hv xt hB hds hsz
  by_cases hk2 : k = 2
  · subst hk2
    gi_wp2_with fail
    obtain ⟨D, E, rfl, hD, hDE, hKD, hKE⟩ : ∃ D E, ds = [mark E, mark D] ∧ N + 1 ≤ D ∧ D < E ∧ W.heap[D]? = some (.deferred (some [])) ∧ W.heap[E]? = some (.deferred (some [])) := by
      rcases unhide hDS with ⟨h, _⟩ | ⟨h, _⟩ | ⟨_, h⟩
      · omega
      · omega
      · exact h
    have hK1 := (KeepsOthers.setCell W ⟨w.heap.size + 1 + 1, 0, none⟩ (.bool true)).same E _ hKE rfl
    have hK2 := (KeepsOthers.setCell W ⟨w.heap.size + 1 + 1, 0, none⟩ (.bool true)).same D _ hKD rfl
    have hK3 : ((W.setCell ⟨w.heap.size + 1 + 1, 0, none⟩ (.bool true)).putObj E (.deferred none)).heap[D]? = some (.deferred (some [])) := (World.putObj_heap_other (by omega)).trans hK2
    refine ⟨by simp, .inl ⟨_, _, rfl, run_takeDeferred hK1, ?_⟩⟩
    refine ⟨by simp, .inl ⟨_, _, rfl, run_takeDeferred hK3, ?_⟩⟩
    have c3 : (W.setCell ⟨w.heap.size + 1 + 1, 0, none⟩ (.bool true)).cell? ⟨w.heap.size + 1 + 1, 0, none⟩ = some (.bool true) := World.cell?_setCell_same _ _ _ d3
    have g1 := cell_kept c3 (grownBy_putObj' _ E (.deferred none)) (fun r e => by cases e; exact ⟨_, hK1, rfl⟩)
    have g2 := cell_kept g1 (grownBy_putObj' _ D (.deferred none)) (fun r e => by cases e; exact ⟨_, hK3, rfl⟩)
    have hBB : Below w.heap.size w (((W.setCell ⟨w.heap.size + 1 + 1, 0, none⟩ (.bool true)).putObj E (.deferred none)).putObj D (.deferred none)) := by
      have b0 : Below w.heap.size w W := (unhide HB6).trans ((unhide hXB).mono (by omega))
      have b1 := b0.setCell (p := ⟨w.heap.size + 1 + 1, 0, none⟩) (by show w.heap.size ≤ w.heap.size + 1 + 1; omega) (.bool true)
      have b2 := b1.trans (belowK_b (w := w) (Nat.le_refl _) _ E _ (.deferred none) (by omega) hK1 rfl rfl)
      exact b2.trans (belowK_b (w := w) (Nat.le_refl _) _ D _ (.deferred none) (by omega) hK3 rfl rfl)
    refine ⟨.bool true, ?_, rfl, hBB⟩
    simp [results, Tryd.f7, go_sem, g2]
  · have hk1 : (k : Int) < 2 := by omega
    have hLn : Below (N + 1) W0 (W.alloc (.cells #[.int .i64 0] 3)) := (unhide hXB).alloc (by have := (unhide hXB).size; omega) _
    have c6n : (W.alloc (.cells #[.int .i64 0] 3)).cell? ⟨N, 0, none⟩ = some (.func (.func 61) #[] #[]) := (hLn.cell (p := ⟨N, 0, none⟩) (by show N < N + 1; omega)).trans (unhide HE).2
    gi_wp2_with fail
    have bn := Boxed.new W 3 (.int .i64 0)
    have bt := (unhide hXT).alloc (.cells #[.int .i64 0] 3)
    have hszn : (W.alloc (.cells #[.int .i64 0] 3)).heap.size = W.heap.size + 1 := by simp
    have hBW : Below W.heap.size W (W.alloc (.cells #[.int .i64 0] 3)) := (Below.refl _ W).alloc (Nat.le_refl _) _
    generalize hBn : W.heap.size = Bn at *
    generalize W.alloc (.cells #[.int .i64 0] 3) = Wn at *
    have hN0s : N + 1 ≤ Bn := by have := (unhide hXB).size; omega
    refine wpIn_rangeFunc_ownH rfl (by omega) (gf := 61) (lb := #[]) rfl trivial (enters_of Tryd.func61 (by kernel_rfl) rfl)
      (empty_stops 8 (N + 1) W0) belowK_t (belowK_b (by omega)) (by rw [hsz4]; exact hLn) (fun _ => rfl)
      (fun pre X => (pre = [] ∧ Boxed X Bt 3 (.int .i64 (k : Nat)) ∧ Boxed X Bn 3 (.int .i64 0)) ∧ (Below (N + 1) W0 X ∧ Below Bn W X))
      (fun _ _ _ => False)
      (OwnFrom.and (Own.from (fun s A B row hs hg hr => ⟨hs.1, box_kept hs.2.1 hg hr, box_kept hs.2.2 hg hr⟩) _) (OwnFrom.and (ownFrom_below (by omega) (by omega)) (ownFrom_below (by omega) (by omega))))
      (fun _ _ _ _ _ hs _ _ => hs)
      ⟨⟨rfl, bt, bn⟩, hLn, hBW⟩
      (fun x a' _ => a' = { tmps := #[.string s, .int .i64 stop, .int .i64 inner, undef, .pointer (some ⟨w.heap.size, 0, none⟩), .pointer (some ⟨w.heap.size + 1, 0, none⟩), .pointer (some ⟨w.heap.size + 1 + 1, 0, none⟩), .pointer (some ⟨w.heap.size + 1 + 1 + 1, 0, none⟩), vu, .int .i64 10, .pointer (some ⟨N, 0, none⟩), .pointer (some ⟨Bt, 0, none⟩), .pointer (some ⟨Bn, 0, none⟩), .int .i64 (x.1.1 : Nat), .int .i32 (x.1.2 : Nat), u15, .tuple #[vu, .int .i64 10], .string s, .tuple #[vu, .int .i64 10], vu, .int .i64 10, .int .i64 10, .bool false, u23, u24, .string s, .func (.func 61) #[] #[], .func (.func 61) #[] #[], .bool false, .int .i64 (k : Nat), .bool true, u31, u32, .func (.func 61) #[] #[], .int .i64 (x.1.1 : Nat), .int .i32 (x.1.2 : Nat), u36, u37, u38, u39, u40, u41, u42, u43, u44, u45, u46, u47, u48, u49, u50, u51, u52, u53, u54, u55, u56, u57, u58, u59, u60, u61, u62, u63, u64, u65, u66, u67, u68, u69, u70, u71, u72, u73, u74, u75, u76, u77, u78, u79, u80, u81, u82, u83, u84, u85, u86, u87, u88, u89, u90, u91, u92, u93, u94, u95], defers := [] }) (fun _ _ _ _ _ _ (hs : _ = _) _ _ => hs) ?assign ?body ?done (fun _ _ _ _ _ _ h _ => h.elim)
    case assign =>
      intro l pre x X K hI hK
      simp only [encs]
      gi_wp2
      exact hK _ _ (KeepsFrom.refl _ _) (Below.refl _ _) hI rfl
    case body =>
      intro l pre x a' X _ _ _ _ hlt
      exact absurd hlt (Nat.not_lt_zero _)
    case done =>
      rintro D ys X hD hys ⟨⟨hp, yt, yn⟩, hB, hBx⟩ hK
      clear hys hp
      have ct' := yt.cell
      have cn := yn.cell
      have d4 := (hB.cell (p := ⟨w.heap.size + 1 + 1 + 1, 0, none⟩) (by show w.heap.size + 1 + 1 + 1 < N + 1; omega)).trans (unhide HE).1
      have hwk : wrap64 ((k : Int) + 1) = (k : Int) + 1 := by unfold wrap64; omega
      have HN := hide (next_turn (B := N + 1) hk2 hk (unhide hDS) hBx hBn (by omega) hK (unhide hXT) hB hBt)
      clear yt yn hB hBx hK hD bn bt hLn c6n hBW hszn hDS hXB HB6 HE ct d3 f3
      gi_wp2
      all_goals
        obtain ⟨n1, n2, n3, n4⟩ := unhide HN
        exact ⟨⟨k + 1, X.heap.size, mark D :: ds, _, _, _, _, _, _, _, _, _, _, _, _, _, _, _, _, _, _, _, _, _, _, _, _, _, _, _, _, _, _, _, _, _, _, _, _, _, _, _, _, _, _, _, _, _, _, _, _, _, _, _, _, _, _, _, _, _, _, _, _, _, _, _, _, _, _, _, _, _, _, _, _, _, rfl, by omega, n1, n2, n3, n4⟩, turn_less hk1 (unhide hXT) n2⟩
end Go.Proofs.YtakenhaieblikaaDoor
