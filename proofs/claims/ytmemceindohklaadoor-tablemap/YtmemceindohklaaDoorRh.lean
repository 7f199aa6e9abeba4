import Derived.Test.YtmemceindohklaaDoorQr
import Derived.Deep.LoopGhost
import Derived.OwnWalk


/-! Rh -/
namespace Go.Proofs.YtmemceindohklaaDoor
open Go Go.Proofs Go.Maps Go.RowKit
set_option linter.unusedSimpArgs false
set_option linter.unusedVariables false
set_option maxHeartbeats 1000000
theorem n1 {α : Type} (l : List α) (i : Nat) (a : α) : l.toArray.setIfInBounds i a = (l.set i a).toArray := List.setIfInBounds_toArray l i a
theorem n2 {α : Type} (x : α) (l : List α) (i : Nat) (a : α) : (x :: l).set (i + 1) a = x :: l.set i a := List.set_cons_succ
theorem n3 {α : Type} (x : α) (l : List α) (a : α) : (x :: l).set 0 a = a :: l := List.set_cons_zero
/-- Between two acts. -/
inductive LI8 (w : World) (T : TT) (A : Option Addr) (cap : Nat) (l : List AT) (c : Bool) (B3 B5 : Nat) (gm : Nat) (X : World) : Act → Prop where
  | mk (i : Nat) (T1 : TT) (xs : List Int) (ds : List Nat) (tv : Value) (u10 u11 u12 u13 u14 u15 u16 u17 u18 u19 u20 u21 u22 u23 u24 u25 u26 u27 u28 u29 u30 u31 u32 u33 u34 u35 u36 u37 u38 u39 u40 u41 u42 u43 u44 u45 u46 u47 u48 u49 u50 u51 u52 u53 u54 u55 u56 u57 u58 u59 u60 u61 u62 u63 u64 u65 u66 u67 u68 u69 u70 u71 u72 u73 u74 u75 u76 u77 u78 u79 u80 u81 u82 u83 u84 u85 u86 u87 u88 u89 u90 u91 u92 u93 u94 u95 u96 u97 u98 u99 u100 u101 u102 u103 u104 u105 u106 u107 u108 u109 u110 u111 u112 u113 u114 u115 u116 u117 u118 u119 u120 u121 u122 u123 u124 u125 u126 u127 u128 u129 u130 u131 u132 u133 u134 u135 u136 u137 u138 u139 u140 u141 u142 u143 u144 u145 u146 : Value) (hil : i ≤ l.length) (hgm : l.length - i ≤ gm) (HI : Hid (RJ w X T T1 [(B3, [.pointer (some ⟨T.t, 0, none⟩)]), (B5, [.bool c])] tv xs ds ∧ runA (l.drop i) (abs T1) xs = runA l (abs T) [] ∧ T1.last ≤ T.last + 201 * i ∧ w.heap.size ≤ B3 ∧ w.heap.size ≤ B5 ∧ xs.length = 2 * i)) : LI8 w T A cap l c B3 B5 gm X { tmps := #[.pointer (some ⟨T.t, 0, none⟩), .slice A l.length cap, .bool c, .pointer (some ⟨B3, 0, none⟩), undef, .pointer (some ⟨B5, 0, none⟩), .slice none 0 0, .slice none 0 0, tv, .int .i64 (i : Nat), u10, u11, u12, u13, u14, u15, u16, u17, u18, u19, u20, u21, u22, u23, u24, u25, u26, u27, u28, u29, u30, u31, u32, u33, u34, u35, u36, u37, u38, u39, u40, u41, u42, u43, u44, u45, u46, u47, u48, u49, u50, u51, u52, u53, u54, u55, u56, u57, u58, u59, u60, u61, u62, u63, u64, u65, u66, u67, u68, u69, u70, u71, u72, u73, u74, u75, u76, u77, u78, u79, u80, u81, u82, u83, u84, u85, u86, u87, u88, u89, u90, u91, u92, u93, u94, u95, u96, u97, u98, u99, u100, u101, u102, u103, u104, u105, u106, u107, u108, u109, u110, u111, u112, u113, u114, u115, u116, u117, u118, u119, u120, u121, u122, u123, u124, u125, u126, u127, u128, u129, u130, u131, u132, u133, u134, u135, u136, u137, u138, u139, u140, u141, u142, u143, u144, u145, u146], defers := marks ds }
def RunPost (w : World) (T : TT) (l : List AT) (e : Ending) (w' : World) : Prop := ∃ (T' : TT) (pw tv : Value), e = .returned (.tuple #[pw, tv]) ∧ T'.Is w' ∧ T'.t = T.t ∧ Fr w w' T.blocks ∧ (∀ b ∈ T'.blocks, b ∈ T.blocks ∨ w.heap.size ≤ b) ∧ abs T' = (runA l (abs T) []).1 ∧ T'.last ≤ T.last + 201 * l.length ∧
  w'.ownsRow w.heap.size 54 20 pw T'.live.length (flatP (T'.live.map RR.pr)) ∧ w'.ownsRow w.heap.size 3 1 tv (runA l (abs T) []).2.length ((runA l (abs T) []).2.map (fun z => .int .i64 z)) ∧ (∀ g, pw.ownBlock = some g → g ∉ T'.blocks) ∧ ∀ g, tv.ownBlock = some g → g ∉ T'.blocks
theorem RJ.leave {w Y Z : World} {T0 T : TT} {L : List (Nat × List Value)} {tv : Value} {xs : List Int} {ds : List Nat} (h : RJ w Y T0 T L tv xs ds) (hZ : Fr Y Z ds) : RJ w Z T0 T L tv xs [] :=
  ⟨⟨h.ri.is.block (fun b hb => hZ.block b (h.ri.is.lt b hb) (fun hm => tab_def h.ri.is hb (h.mkd b hm))), h.ri.hq.step hZ (fun b hb => .inr (h.low b hb)) (fun q hq hm => hold_def (h.ri.hq.all q hq).1 (h.ri.hq.all q hq).2 (h.mkd _ hm)), h.ri.new, h.ri.sep, h.ri.tq⟩,
    own_keep h.own (fun g hg => hZ.block g (World.ownsRow.lt h.own g hg).2 (fun hm => own_def h.own hg (h.mkd g hm))), h.apart, by simp, by simp, by simp⟩
theorem RJ.ri_grown {w X Y : World} {T0 T : TT} {L : List (Nat × List Value)} {tv : Value} {xs : List Int} {ds : List Nat} (h : RJ w X T0 T L tv xs ds) (hg : X.grownBy Y tv.ownBlock) : RI w Y T0 T L := by
  have hgY : Fr X Y tv.ownBlock.toList := Fr.grown hg
  have hE : ∀ b, b ∈ tv.ownBlock.toList → tv.ownBlock = some b := fun b hb => by simpa using hb
  exact ⟨h.ri.is.block (fun b hb => hgY.block b (h.ri.is.lt b hb) (fun hm => (h.apart b (hE b hm)).1 hb)), h.ri.hq.step hgY (fun b hb => .inr (World.ownsRow.lt h.own b (hE b hb)).1) (fun q hq hm => (h.apart q.1 (hE _ hm)).2 q hq rfl), h.ri.new, h.ri.sep, h.ri.tq⟩
theorem RJ.fresh {w X : World} {T0 T : TT} {L : List (Nat × List Value)} {tv : Value} {xs : List Int} {ds : List Nat} (h : RJ w X T0 T L tv xs ds) (cs : List Value) (t : TypeId) : Holds (X.alloc (Obj.cells cs.toArray t)) X.heap.size cs := Holds.new X cs t
theorem RJ.bl {w X : World} {T0 T : TT} {L : List (Nat × List Value)} {tv : Value} {xs : List Int} {ds : List Nat} (h : RJ w X T0 T L tv xs ds) (o : Obj) : Below X.heap.size X (X.alloc o) := (Below.refl _ _).alloc (Nat.le_refl _) _
theorem abs_len (T : TT) : (abs T).l.length = T.live.length := by simp [abs]
theorem bl3 (X : World) (o : Obj) : Below X.heap.size X (X.alloc o) := (Below.refl _ _).alloc (Nat.le_refl _) _
theorem inf3 : (Tryd.prog.info? 3).map (fun i => (i.zero, i.size, i.bytes)) = some (some (.int .i64 0), 1, 8) := by kernel_rfl
theorem ex_build26 {o : Oper} {a : Act} {w : World} {x0 x1 : Operand} (e0 e1 : Int) (ho : o.op = .buildSlice 26 2 #[(0, x0), (1, x1)]) (h0 : a.eval x0 = .int .i64 e0) (h1 : a.eval x1 = .int .i64 e1) : (execOp a.eval o).run Tryd.prog w = .ok (.value (.slice (some ⟨w.heap.size, 0, none⟩) 2 2)) (w.alloc (Obj.cells [Value.int .i64 e0, .int .i64 e1].toArray 3)) := by
  have e : (Instr.buildSlice 26 2 #[(0, .int .i64 e0), (1, .int .i64 e1)]).run Tryd.prog w = .ok (.slice (some ⟨w.heap.size, 0, none⟩) 2 2) (w.alloc (Obj.cells [Value.int .i64 e0, .int .i64 e1].toArray 3)) := by kernel_rfl
  unfold execOp
  simp only [ho]
  simp [h0, h1, e]
/-- The body returns; it does nothing else. -/
def RetM (fn : Func) (n : Nat) (R : Ending → World → Prop) : Exit → Act → World → Prop
  | .normal, a, w | .ret, a, w => LeavesInM Fence.wide n Tryd.prog fn a.tmps R a.defers .returning w
  | _, _, _ => False
theorem retM_post {fn : Func} {n : Nat} {R : Ending → World → Prop} : ∀ (e : Exit) (a : Act) (w : World), RetM fn n R e a w → bodyPostM Fence.wide n Tryd.prog fn R e a w
  | .normal, _, _, h => h
  | .ret, _, _, h => h
  | .panic _, _, _, h => h.elim
  | .outgrown, _, _, h => h.elim
  | .exit _, _, _, h => h.elim
  | .goto _, _, _, h => h.elim
theorem zip2 (p1 p2 : Tmp) (v1 v2 : Value) (t : Array Value) : ((#[p1, p2] : Array Tmp).zip #[v1, v2]).foldl (fun t (x : Tmp × Value) => t.setIfInBounds x.1 x.2) t = (t.setIfInBounds p1 v1).setIfInBounds p2 v2 := by simp
theorem W9.on {w : World} {T : TT} {il : List AC} {L : Int → Int → List (Nat × List Value)} {tv : Value} {xs : List Int} {ds : List Nat} {FIN : WA} {s : WS} {X Y : World} (h : W9 w T il L tv xs ds FIN s X) (k : Below X.heap.size X Y) : W9 w T il L tv xs ds FIN s Y :=
  W9.ownL (B := w.heap.size) (Nat.le_refl _) s X Y none h (grown_of_below k) (fun r e => by cases e)
theorem ex_eqFn {o : Oper} {a : Act} {w : World} {x : Operand} {lb : Array Value} (ho : o.op = .binOp .eql 51 x (.const .nilFunc) 51) (hx : a.eval x = .func (.func 32) #[] lb) : (execOp a.eval o).run Tryd.prog w = .ok (.value (.bool false)) w := by
  have e : (binOp .eql 51 (.func (.func 32) #[] lb) .nilFunc).run Tryd.prog w = .ok (.bool false) w := by kernel_rfl
  have e2 : (eqGuard .eql 51 x (.const .nilFunc) (.func (.func 32) #[] lb) .nilFunc).run Tryd.prog w = .ok () w := by kernel_rfl
  have e3 : a.eval (.const .nilFunc) = .nilFunc := rfl
  unfold execOp
  simp only [ho, hx, e3]
  simp [e, e2]
theorem cell_lt {X : World} {a : Addr} {v : Value} (h : X.cell? a = some v) : a.block < X.heap.size := by
  rcases Nat.lt_or_ge a.block X.heap.size with h1 | h1
  · exact h1
  · have e : X.heap[a.block]? = none := Array.getElem?_eq_none h1
    simp [World.cell?, e] at h
theorem ex_addW {o : Oper} {a : Act} {w : World} {x y : Operand} {n m : Int} (ho : o.op = .binOp .add 3 x y 3) (hx : a.eval x = .int .i64 n) (hy : a.eval y = .int .i64 m) : (execOp a.eval o).run Tryd.prog w = .ok (.value (.int .i64 (IntKind.i64.wrap (n + m)))) w := by
  unfold execOp
  simp only [ho, hx, hy]
  simp [go_sem, eqGuard]
theorem ex_mulW {o : Oper} {a : Act} {w : World} {x y : Operand} {n m : Int} (ho : o.op = .binOp .mul 3 x y 3) (hx : a.eval x = .int .i64 n) (hy : a.eval y = .int .i64 m) : (execOp a.eval o).run Tryd.prog w = .ok (.value (.int .i64 (IntKind.i64.wrap (n * m)))) w := by
  unfold execOp
  simp only [ho, hx, hy]
  simp [go_sem, eqGuard]
theorem ex_lenS9 {o : Oper} {a : Act} {w : World} {m : Operand} {s : ByteArray} (ho : o.op = .call { callee := .builtin .len, args := #[m], argTypes := #[9] }) (hm : a.eval m = .string s) : (execOp a.eval o).run Tryd.prog w = .ok (.value (.int .i64 (s.size : Nat))) w := by
  simp [execOp, ho, resolve, invoke, builtin, hm, Builtin.len_, Result.andThen, goInt, Tryd.underlying9, run_underlying Tryd.underlying9]
theorem ex_addWw {o : Oper} {a : Act} {w : World} {x y : Operand} {n m z : Int} (ho : o.op = .binOp .add 3 x y 3) (hx : a.eval x = .int .i64 n) (hy : a.eval y = .int .i64 m) (h : IntKind.i64.wrap (n + m) = z) : (execOp a.eval o).run Tryd.prog w = .ok (.value (.int .i64 z)) w := by
  rw [← h]
  unfold execOp
  simp only [ho, hx, hy]
  simp [go_sem, eqGuard]
theorem act_rangeK {X : World} {b p : Nat} {y : AC} (h : X.rangeAt b p y.cs) : X.rangeAt b (p + 1) y.k.cs := range_left (range_right (a := [.int .i64 y.kd]) h)
theorem act_rangeD {X : World} {b p : Nat} {y : AC} (h : X.rangeAt b p y.cs) : X.rangeAt b (p + 3) y.d.cs := range_left (range_right (a := y.k.cs) (range_right (a := [.int .i64 y.kd]) h))
theorem PutT.grows {T T' : TT} {k : KK} {d : DD} (h : PutT T k d T') : T.last ≤ T'.last := by
  rcases h with ⟨q, h1, rfl⟩ | ⟨h1, h2, rv, R, rfl⟩ | ⟨h1, h2, rfl⟩
  · exact Nat.le_refl _
  · exact Nat.le_succ _
  · exact Nat.le_refl _
attribute [local go_sem] Oper.semAt_some
set_option maxHeartbeats 8000000 in
set_option maxRecDepth 100000 in
theorem run8 (T : TT) (A : Option Addr) (cap : Nat) (l : List AT) (c : Bool) (w : World) (hT : T.Is w) (hR : ReadsAT w T.blocks A l) (hU : Lib.Utf8Tabs 4 5 w) (h6 : ∀ b ∈ T.blocks, 6 ≤ b) (hl : l.length ≤ 400) (hn : T.last + 201 * l.length < 99000) : Calls Tryd.prog 8 #[.pointer (some ⟨T.t, 0, none⟩), .slice A l.length cap, .bool c] w (RunPost w T l) := by
  have HR := hide hR
  have HU := hide hU
  have H6 := hide h6
  have HL := hide hl
  have HN := hide hn
  have LL : Hid (RJ w w T T [] (.slice none 0 0) [] []) := hide (RJ.start hT)
  clear hR hU h6 hl hn hT
  refine (callsIn_wide (n := 6)).1 ?_
  refine callsIn_of_wp_marks Tryd.func8 rfl trivial ?_ rfl
  simp only [Tryd.ntmps8, List.size_toArray, List.length_cons, List.length_nil, Nat.reduceAdd, Nat.reduceSub, Array.replicate_succ, Array.replicate_zero, List.push_toArray, List.append_toArray, List.nil_append, List.cons_append]
  refine wpIn_wide.2 (wp_mono (Q := RetM Tryd.f8 6 (RunPost w T l)) ?_ retM_post)
  go_wp2_with (first | go_skip | ((with_reducible show wpList _ _ _ _ _ _); first | ((refine bxK 29 ([.pointer (some ⟨T.t, 0, none⟩)]) (by rfl) rfl rfl rfl (Nat.succ_pos _) (unhide LL) ?_); intro X3 B3 hB3 L3; replace hB3 := hide hB3; replace LL := hide L3; clear L3; simp only [Act.put, n1, n2, n3]) | ((refine bxK 4 ([.bool c]) (by rfl) rfl rfl rfl (Nat.succ_pos _) (unhide LL) ?_); intro X5 B5 hB5 L5; replace hB5 := hide hB5; replace LL := hide L5; clear L5; simp only [Act.put, n1, n2, n3])))
  refine wp_loop_ghost_k (fun gm a X => LI8 w T A cap l c B3 B5 gm X a) l.length ?start ?round
  case start => exact LI8.mk 0 T [] [] _ _ _ _ _ _ _ _ _ _ _ _ _ _ _ _ _ _ _ _ _ _ _ _ _ _ _ _ _ _ _ _ _ _ _ _ _ _ _ _ _ _ _ _ _ _ _ _ _ _ _ _ _ _ _ _ _ _ _ _ _ _ _ _ _ _ _ _ _ _ _ _ _ _ _ _ _ _ _ _ _ _ _ _ _ _ _ _ _ _ _ _ _ _ _ _ _ _ _ _ _ _ _ _ _ _ _ _ _ _ _ _ _ _ _ _ _ _ _ _ _ _ _ _ _ _ _ _ _ _ _ _ _ _ _ _ _ _ (Nat.zero_le _) (Nat.le_refl _) (hide ⟨unhide LL, rfl, Nat.le_refl _, unhide hB3, unhide hB5, rfl⟩)
  case round =>
    clear LL
    intro gm a X hin J K hJ hK
    obtain ⟨i, T1, xs, ds, tv, u10, u11, u12, u13, u14, u15, u16, u17, u18, u19, u20, u21, u22, u23, u24, u25, u26, u27, u28, u29, u30, u31, u32, u33, u34, u35, u36, u37, u38, u39, u40, u41, u42, u43, u44, u45, u46, u47, u48, u49, u50, u51, u52, u53, u54, u55, u56, u57, u58, u59, u60, u61, u62, u63, u64, u65, u66, u67, u68, u69, u70, u71, u72, u73, u74, u75, u76, u77, u78, u79, u80, u81, u82, u83, u84, u85, u86, u87, u88, u89, u90, u91, u92, u93, u94, u95, u96, u97, u98, u99, u100, u101, u102, u103, u104, u105, u106, u107, u108, u109, u110, u111, u112, u113, u114, u115, u116, u117, u118, u119, u120, u121, u122, u123, u124, u125, u126, u127, u128, u129, u130, u131, u132, u133, u134, u135, u136, u137, u138, u139, u140, u141, u142, u143, u144, u145, u146, hil, hgm, HI⟩ := hin
    have LL := hide (unhide HI).1
    by_cases hlt : i < l.length
    · have dlt : decide ((i : Int) < (l.length : Int)) = true := decide_eq_true (by omega)
      have hw1 : IntKind.i64.wrap ((i : Int) + 1) = (i : Int) + 1 := by have := unhide HL; rw [IntKind.wrap_i64]; omega
      obtain ⟨x, hx⟩ : ∃ x, l[i]? = some x := ⟨_, List.getElem?_eq_getElem hlt⟩
      obtain ⟨hok, b, off, IA, ic, hA, hb, hbE, hrg, hin⟩ := (unhide HR) i x hx
      subst hA
      have HA2 : Hid (∀ X, Fr w X T.blocks → X.rangeAt b (off + i * 23) (actCs x.kd x.k x.d x.n (.slice IA x.il.length ic))) := hide (fun X hX => rangeAt_frE hrg hb hbE hX)
      have HIN := hide hin
      have HOK := hide hok
      have HLT := hide hlt
      have HDR : Hid (runA (l.drop i) (abs T1) xs = runA (l.drop (i + 1)) (actA x (abs T1)).1 (xs ++ [(actA x (abs T1)).2, ((actA x (abs T1)).1.l.length : Int)])) := hide (by rw [List.drop_eq_getElem_cons hlt, (List.getElem?_eq_some_iff.1 hx).2]; rfl)
      have HLT1 : Hid (T1.last < 99000) := hide (by have h1 := (unhide HI).2.2.1; have h2 := unhide HN; omega)
      have HXS : Hid (xs.length ≤ 1000) := hide (by have h1 := (unhide HI).2.2.2.2.2; have h2 := unhide HL; omega)
      clear hok hb hbE hrg hin hx hlt
      cases c
      · have HA0 : abs T1 = abs T1 := rfl
        have HA1 : T1.last = T1.last := rfl
        obtain ⟨Tc, HTC, HLC, LL2⟩ : ∃ Tc, Hid (abs Tc = abs T1) ∧ Hid (Tc.last = T1.last) ∧ Hid (RJ w _ T Tc [(B3, [.pointer (some ⟨T.t, 0, none⟩)]), (B5, [.bool false])] tv xs ds) := ⟨_, hide HA0, hide HA1, LL⟩
        replace HLT1 : Hid (Tc.last < 99000) := hide (by have h1 := unhide HLC; have h2 := unhide HLT1; omega)
        clear LL HA0 HA1
        have LL := LL2
        clear LL2
        by_cases h1 : x.kd = 1
        · have he1 : (x.kd == 1) = true := by simp [h1]
          have HAC : Hid (actA x (abs T1) = ((abs T1).put x.k x.d, errOf x.k)) := hide (by unfold actA; rw [if_pos h1])
          clear h1
          go_wp2_with (first | go_skip | ((with_reducible show wpList _ _ _ _ _ _); first | ((refine vl (by rfl) (ex_load1 29 Tryd.isAgg29 rfl rfl ((unhide LL).get 0 rfl) rfl) ?_); simp only [Act.put, n1, n2, n3]) | ((refine vl (by rfl) (ex_load1 4 Tryd.isAgg4 rfl rfl ((unhide LL).get 1 rfl) rfl) ?_); simp only [Act.put, n1, n2, n3]) | ((refine vl (by rfl) (ex_load1 3 Tryd.isAgg3 rfl rfl ((unhide LL).get 2 rfl) rfl) ?_); simp only [Act.put, n1, n2, n3]) | ((refine vl (by rfl) (ex_loadN (vs := x.k.cs) 34 2 row33x siz33 rfl rfl ((unhide LL).get 2 rfl) rfl rfl) ?_); simp only [Act.put, n1, n2, n3]) | ((refine vl (by rfl) (ex_loadN (vs := x.d.cs) 40 18 row39 siz39 rfl rfl ((unhide LL).get 2 rfl) rfl rfl) ?_); simp only [Act.put, n1, n2, n3]) | ((refine vl (by rfl) (ex_lenG 22 42 Tryd.underlying22 rfl rfl) ?_); simp only [Act.put, n1, n2, n3]) | ((refine vl (by rfl) (ex_indexG 22 23 i und22 idx22 rfl rfl rfl (unhide HLT)) ?_); simp only [Act.put, n1, n2, n3]) | ((refine vl (by rfl) (ex_loadR (vs := actCs x.kd x.k x.d x.n (.slice IA x.il.length ic)) 42 23 row41 siz41 rfl rfl (unhide HA2 _ (unhide LL).fr) rfl) ?_); simp only [Act.put, n1, n2, n3]) | ((refine alK (v := .agg (zeroAct).toArray) 42 (zeroAct) (by rfl) rfl (fun w => by kernel_rfl) rfl (Nat.succ_pos _) (unhide LL) ?_); intro X10 B10 hB10 L10; replace hB10 := hide hB10; replace LL := hide L10; clear L10; simp only [Act.put, n1, n2, n3]) | ((refine stK (vs := actCs x.kd x.k x.d x.n (.slice IA x.il.length ic)) 2 42 (by rfl) rfl rfl rfl rfl (act_one _ _ _ _ _ _ _) siz41 (unhide LL) rfl (by simp [cput, zeroAct, actCs, zeroK, zeroD, KK.cs, DD.cs, VV.cs]) (unhide hB10) ?_); intro X12 L12; replace LL := hide L12; clear L12; simp only [Act.put, n1, n2, n3]) | ((refine alK (v := .int .i64 0) 3 ([.int .i64 0]) (by rfl) rfl (fun w => by kernel_rfl) rfl (Nat.succ_pos _) (unhide LL) ?_); intro X11 B11 hB11 L11; replace hB11 := hide hB11; replace LL := hide L11; clear L11; simp only [Act.put, n1, n2, n3]) | ((refine stK (vs := [.int .i64 0]) 3 3 (by rfl) rfl rfl rfl rfl (by simp [Value.oneCell']) siz3 (unhide LL) rfl (by simp [cput, zeroAct, actCs, zeroK, zeroD, KK.cs, DD.cs, VV.cs]) (unhide hB11) ?_); intro X13 L13; replace LL := hide L13; clear L13; simp only [Act.put, n1, n2, n3])))
          have HPT := hide (put12e Tc x.k x.d _ (unhide LL).ri.is (tabs_fr (unhide HU) (unhide LL).fr (unhide H6)) (unhide HOK) (by have := unhide HLT1; omega) (fun b hb => by rcases (unhide LL).ri.new b hb with h | h; exact unhide H6 b h; have := tabs_size (unhide HU); omega))
          rw [(unhide LL).ri.tq] at HPT
          refine (unhide HPT).mono ?_
          rintro _ Y ⟨rfl, T2, hT2, ht2, hf2, hb2, hp2⟩
          have HF : Hid (abs T2 = (actA x (abs T1)).1) := hide (by rw [unhide HAC]; rw [abs_put (unhide LL).ri.is hp2, unhide HTC])
          have HV : Hid (errOf x.k = (actA x (abs T1)).2) := hide (by rw [unhide HAC])
          clear hp2 HPT
          replace LL := hide ((unhide LL).step hT2 (ht2.trans (unhide LL).ri.tq.symm) hf2 hb2)
          clear hT2 ht2 hf2 hb2
          go_wp2_with fail
          refine (num11 (errOf x.k) (errOf_le x.k) _).mono ?_
          rintro _ Y2 ⟨rfl, hbn⟩
          replace LL := hide ((unhide LL).on hbn)
          clear hbn
          go_wp2_with (first | go_skip | ((with_reducible show wpList _ _ _ _ _ _); first | ((refine stK (vs := [.int .i64 (errOf x.k)]) 3 3 (by rfl) rfl rfl rfl rfl (by simp [Value.oneCell']) siz3 (unhide LL) rfl (by simp [cput, zeroAct, actCs, zeroK, zeroD, KK.cs, DD.cs, VV.cs]) (unhide hB11) ?_); intro X14 L14; replace LL := hide L14; clear L14; simp only [Act.put, n1, n2, n3])))
          obtain ⟨LB, hLB, hLL⟩ : ∃ LB, LB = _ ∧ RJ w _ T T2 LB tv xs ds := ⟨_, rfl, unhide LL⟩
          have hg3 : LB[0]? = some (B3, [.pointer (some ⟨T.t, 0, none⟩)]) := by rw [hLB]; rfl
          have hg11 : LB[3]? = some (B11, [.int .i64 (errOf x.k)]) := by rw [hLB]; rfl
          have hq0 := hLL.drew
          refine wp_region_held_drew (P := Tryd.prog) (S := fun X => RI w X T T2 LB) (by kernel_rfl) hq0.ri (fun hS0 => ?_)
          refine gsem 0 (some 138) (tv) rfl (by kernel_rfl) (by kernel_rfl) (by kernel_rfl) (fun _ _ _ h => h) (by kernel_rfl) (by kernel_rfl) (fun _ _ => by kernel_rfl) hq0.ri ?_
          simp only [Act.put, n1, n2, n3]
          refine gsem 1 (some 139) (.int .i64 (errOf x.k)) rfl (by kernel_rfl) (by kernel_rfl) (by kernel_rfl) (fun _ _ _ h => h) (by kernel_rfl) (by kernel_rfl) (fun X hX => ex_load1 3 Tryd.isAgg3 rfl rfl (hX.hq.get 3 hg11) rfl) hq0.ri ?_
          simp only [Act.put, n1, n2, n3]
          refine gsem 2 (some 140) (.pointer (some ⟨T.t, 0, none⟩)) rfl (by kernel_rfl) (by kernel_rfl) (by kernel_rfl) (fun _ _ _ h => h) (by kernel_rfl) (by kernel_rfl) (fun X hX => ex_load1 29 Tryd.isAgg29 rfl rfl (hX.hq.get 0 hg3) rfl) hq0.ri ?_
          simp only [Act.put, n1, n2, n3]
          have HLN := hide (len30 T2 _ hq0.ri.is)
          rw [hq0.ri.tq] at HLN
          refine wpAnyH_ready (rs := [3]) (by kernel_rfl) (by simp) (gcallR 3 (some 141) rfl (by kernel_rfl) (by kernel_rfl) (by kernel_rfl) (unhide HLN) ?_ AllReadyH.nil)
          rintro _ Y3 ⟨rfl, hY3⟩
          subst hY3
          refine ⟨_, rfl, hq0.ri, ?_⟩
          simp only [Act.put, n1, n2, n3]
          have hI4 := hq0.fresh ([.int .i64 (errOf x.k), .int .i64 (T2.live.length : Nat)]) 3
          have hb4 := hq0.bl (Obj.cells ([.int .i64 (errOf x.k), .int .i64 (T2.live.length : Nat)]).toArray 3)
          refine wpAnyH_ready (rs := [4]) (by kernel_rfl) (by simp) (gval 4 (some 142) rfl (by kernel_rfl) (by kernel_rfl) (ex_build26 (errOf x.k) (T2.live.length : Nat) rfl rfl rfl) (hq0.ri.on hb4) ?_ AllReadyH.nil)
          simp only [Act.put, n1, n2, n3]
          have hq4 := hq0.on hb4
          refine wpAnyH_ready (rs := [5]) (by kernel_rfl) (by simp) (gappF (base := w.heap.size) (size := 1) (bytes := 8) (k := xs.length) (m := 2) (news := [.int .i64 (errOf x.k), .int .i64 (T2.live.length : Nat)]) (xs := xs.map (fun z => .int .i64 z)) (v := tv) 5 (some 143) rfl (by kernel_rfl) (by kernel_rfl) rfl rfl rfl Tryd.underlying26 inf3 rfl (by decide) hq4.own hI4 rfl (by simp [Value.oneCell']) (by have := unhide HXS; omega) (by decide) hq4.fr.size (fun X hg => hq4.ri_grown hg) ?_ AllReadyH.nil)
          intro A6 c6 X6 hO6 hg6 hF6
          simp only [Act.put, n1, n2, n3]
          have hq6 := hq4.app (ys := [errOf x.k, (T2.live.length : Int)]) (tv2 := .slice A6 (xs.length + 2) c6) (by simpa using hO6) hg6 hF6
          refine gsem 6 (some 8) (.slice A6 (xs.length + 2) c6) rfl (by kernel_rfl) (by kernel_rfl) (by kernel_rfl) (fun _ _ _ h => h) (by kernel_rfl) (by kernel_rfl) (fun _ _ => by kernel_rfl) hq6.ri ?_
          simp only [Act.put, n1, n2, n3]
          refine wpAnyH_done (by kernel_rfl) ?_ _
          try simp only [Act.put, n1, n2, n3]
          rw [hLB] at hq6
          have LN : Hid (RJ w X6 T T2 [(B3, [.pointer (some ⟨T.t, 0, none⟩)]), (B5, [.bool false])] (.slice A6 (xs.length + 2) c6) (xs ++ [errOf x.k, (T2.live.length : Int)]) (ds)) := hide (RJ.left (L := [(B3, [.pointer (some ⟨T.t, 0, none⟩)]), (B5, [.bool false])]) (M := _) hq6)
          clear hq0 hq4 hq6 hLL hLB hg3 hg11 hI4 hb4 hO6 hg6 hF6 hS0 HLN LL
          go_wp2
          rw [show ((i : Int) + 1) = ((i + 1 : Nat) : Int) from rfl]
          exact (Handed.intro (l.length - (i + 1)) (by have := unhide HLT; omega) (hJ _ _ _ (LI8.mk (i + 1) T2 _ (ds) _ _ _ _ _ _ _ _ _ _ _ _ _ _ _ _ _ _ _ _ _ _ _ _ _ _ _ _ _ _ _ _ _ _ _ _ _ _ _ _ _ _ _ _ _ _ _ _ _ _ _ _ _ _ _ _ _ _ _ _ _ _ _ _ _ _ _ _ _ _ _ _ _ _ _ _ _ _ _ _ _ _ _ _ _ _ _ _ _ _ _ _ _ _ _ _ _ _ _ _ _ _ _ _ _ _ _ _ _ _ _ _ _ _ _ _ _ _ _ _ _ _ _ _ _ _ _ _ _ _ _ _ _ _ _ _ _ _ (by have := unhide HLT; omega) (Nat.le_refl _) (hide ⟨unhide LN, by have h1 := unhide HDR; rw [← unhide HF, ← unhide HV] at h1; have h2 := (unhide HI).2.1; rw [h1, abs_len] at h2; exact h2, by have h1 := act_last x (abs T1); rw [← unhide HF] at h1; have h2 : T2.last ≤ T1.last + 201 := h1; have h3 := (unhide HI).2.2.1; omega, (unhide HI).2.2.2.1, (unhide HI).2.2.2.2.1, by have := (unhide HI).2.2.2.2.2; simp; omega⟩))))
        · by_cases h2 : x.kd = 2
          · have he2 : (x.kd == 2) = true := by simp [h2]
            have he1 : (x.kd == 1) = false := by simp [h1]
            have HAC : Hid (actA x (abs T1) = ((abs T1).del x.k, if (abs T1).has x.k then 1 else 0)) := hide (by unfold actA; rw [if_neg h1, if_pos h2])
            clear h1 h2
            go_wp2_with (first | go_skip | ((with_reducible show wpList _ _ _ _ _ _); first | ((refine vl (by rfl) (ex_load1 29 Tryd.isAgg29 rfl rfl ((unhide LL).get 0 rfl) rfl) ?_); simp only [Act.put, n1, n2, n3]) | ((refine vl (by rfl) (ex_load1 4 Tryd.isAgg4 rfl rfl ((unhide LL).get 1 rfl) rfl) ?_); simp only [Act.put, n1, n2, n3]) | ((refine vl (by rfl) (ex_load1 3 Tryd.isAgg3 rfl rfl ((unhide LL).get 2 rfl) rfl) ?_); simp only [Act.put, n1, n2, n3]) | ((refine vl (by rfl) (ex_loadN (vs := x.k.cs) 34 2 row33x siz33 rfl rfl ((unhide LL).get 2 rfl) rfl rfl) ?_); simp only [Act.put, n1, n2, n3]) | ((refine vl (by rfl) (ex_loadN (vs := x.d.cs) 40 18 row39 siz39 rfl rfl ((unhide LL).get 2 rfl) rfl rfl) ?_); simp only [Act.put, n1, n2, n3]) | ((refine vl (by rfl) (ex_lenG 22 42 Tryd.underlying22 rfl rfl) ?_); simp only [Act.put, n1, n2, n3]) | ((refine vl (by rfl) (ex_indexG 22 23 i und22 idx22 rfl rfl rfl (unhide HLT)) ?_); simp only [Act.put, n1, n2, n3]) | ((refine vl (by rfl) (ex_loadR (vs := actCs x.kd x.k x.d x.n (.slice IA x.il.length ic)) 42 23 row41 siz41 rfl rfl (unhide HA2 _ (unhide LL).fr) rfl) ?_); simp only [Act.put, n1, n2, n3]) | ((refine alK (v := .agg (zeroAct).toArray) 42 (zeroAct) (by rfl) rfl (fun w => by kernel_rfl) rfl (Nat.succ_pos _) (unhide LL) ?_); intro X10 B10 hB10 L10; replace hB10 := hide hB10; replace LL := hide L10; clear L10; simp only [Act.put, n1, n2, n3]) | ((refine stK (vs := actCs x.kd x.k x.d x.n (.slice IA x.il.length ic)) 2 42 (by rfl) rfl rfl rfl rfl (act_one _ _ _ _ _ _ _) siz41 (unhide LL) rfl (by simp [cput, zeroAct, actCs, zeroK, zeroD, KK.cs, DD.cs, VV.cs]) (unhide hB10) ?_); intro X12 L12; replace LL := hide L12; clear L12; simp only [Act.put, n1, n2, n3]) | ((refine alK (v := .int .i64 0) 3 ([.int .i64 0]) (by rfl) rfl (fun w => by kernel_rfl) rfl (Nat.succ_pos _) (unhide LL) ?_); intro X11 B11 hB11 L11; replace hB11 := hide hB11; replace LL := hide L11; clear L11; simp only [Act.put, n1, n2, n3]) | ((refine stK (vs := [.int .i64 0]) 3 3 (by rfl) rfl rfl rfl rfl (by simp [Value.oneCell']) siz3 (unhide LL) rfl (by simp [cput, zeroAct, actCs, zeroK, zeroD, KK.cs, DD.cs, VV.cs]) (unhide hB11) ?_); intro X13 L13; replace LL := hide L13; clear L13; simp only [Act.put, n1, n2, n3])))
            have HDL := hide (deleteN Tc x.k _ (unhide LL).ri.is (unhide HOK) (by have := unhide HLT1; omega))
            rw [(unhide LL).ri.tq] at HDL
            have hhas : (abs T1).has x.k = (Tc.find x.k).isSome := by rw [← unhide HTC, abs_has]
            obtain ⟨fb, hfb⟩ : ∃ fb, (Tc.find x.k).isSome = fb := ⟨_, rfl⟩
            rw [hfb] at HDL hhas
            clear hfb
            refine (unhide HDL).mono ?_
            rintro _ Y ⟨rfl, T2, hT2, ht2, hn2, hf2, hb2, hl2, -⟩
            have HF : Hid (abs T2 = (actA x (abs T1)).1) := hide (by rw [unhide HAC]; rw [abs_del hl2 hn2, unhide HTC])
            clear hl2 hn2 HDL
            replace LL := hide ((unhide LL).step hT2 (ht2.trans (unhide LL).ri.tq.symm) hf2 hb2)
            clear hT2 ht2 hf2 hb2
            cases fb
            · have HV : Hid ((0 : Int) = (actA x (abs T1)).2) := hide (by rw [unhide HAC]; simp [hhas])
              clear hhas
              go_wp2_with fail
              obtain ⟨LB, hLB, hLL⟩ : ∃ LB, LB = _ ∧ RJ w _ T T2 LB tv xs ds := ⟨_, rfl, unhide LL⟩
              have hg3 : LB[0]? = some (B3, [.pointer (some ⟨T.t, 0, none⟩)]) := by rw [hLB]; rfl
              have hg11 : LB[3]? = some (B11, [.int .i64 (0)]) := by rw [hLB]; rfl
              have hq0 := hLL.drew
              refine wp_region_held_drew (P := Tryd.prog) (S := fun X => RI w X T T2 LB) (by kernel_rfl) hq0.ri (fun hS0 => ?_)
              refine gsem 0 (some 138) (tv) rfl (by kernel_rfl) (by kernel_rfl) (by kernel_rfl) (fun _ _ _ h => h) (by kernel_rfl) (by kernel_rfl) (fun _ _ => by kernel_rfl) hq0.ri ?_
              simp only [Act.put, n1, n2, n3]
              refine gsem 1 (some 139) (.int .i64 (0)) rfl (by kernel_rfl) (by kernel_rfl) (by kernel_rfl) (fun _ _ _ h => h) (by kernel_rfl) (by kernel_rfl) (fun X hX => ex_load1 3 Tryd.isAgg3 rfl rfl (hX.hq.get 3 hg11) rfl) hq0.ri ?_
              simp only [Act.put, n1, n2, n3]
              refine gsem 2 (some 140) (.pointer (some ⟨T.t, 0, none⟩)) rfl (by kernel_rfl) (by kernel_rfl) (by kernel_rfl) (fun _ _ _ h => h) (by kernel_rfl) (by kernel_rfl) (fun X hX => ex_load1 29 Tryd.isAgg29 rfl rfl (hX.hq.get 0 hg3) rfl) hq0.ri ?_
              simp only [Act.put, n1, n2, n3]
              have HLN := hide (len30 T2 _ hq0.ri.is)
              rw [hq0.ri.tq] at HLN
              refine wpAnyH_ready (rs := [3]) (by kernel_rfl) (by simp) (gcallR 3 (some 141) rfl (by kernel_rfl) (by kernel_rfl) (by kernel_rfl) (unhide HLN) ?_ AllReadyH.nil)
              rintro _ Y3 ⟨rfl, hY3⟩
              subst hY3
              refine ⟨_, rfl, hq0.ri, ?_⟩
              simp only [Act.put, n1, n2, n3]
              have hI4 := hq0.fresh ([.int .i64 (0), .int .i64 (T2.live.length : Nat)]) 3
              have hb4 := hq0.bl (Obj.cells ([.int .i64 (0), .int .i64 (T2.live.length : Nat)]).toArray 3)
              refine wpAnyH_ready (rs := [4]) (by kernel_rfl) (by simp) (gval 4 (some 142) rfl (by kernel_rfl) (by kernel_rfl) (ex_build26 (0) (T2.live.length : Nat) rfl rfl rfl) (hq0.ri.on hb4) ?_ AllReadyH.nil)
              simp only [Act.put, n1, n2, n3]
              have hq4 := hq0.on hb4
              refine wpAnyH_ready (rs := [5]) (by kernel_rfl) (by simp) (gappF (base := w.heap.size) (size := 1) (bytes := 8) (k := xs.length) (m := 2) (news := [.int .i64 (0), .int .i64 (T2.live.length : Nat)]) (xs := xs.map (fun z => .int .i64 z)) (v := tv) 5 (some 143) rfl (by kernel_rfl) (by kernel_rfl) rfl rfl rfl Tryd.underlying26 inf3 rfl (by decide) hq4.own hI4 rfl (by simp [Value.oneCell']) (by have := unhide HXS; omega) (by decide) hq4.fr.size (fun X hg => hq4.ri_grown hg) ?_ AllReadyH.nil)
              intro A6 c6 X6 hO6 hg6 hF6
              simp only [Act.put, n1, n2, n3]
              have hq6 := hq4.app (ys := [0, (T2.live.length : Int)]) (tv2 := .slice A6 (xs.length + 2) c6) (by simpa using hO6) hg6 hF6
              refine gsem 6 (some 8) (.slice A6 (xs.length + 2) c6) rfl (by kernel_rfl) (by kernel_rfl) (by kernel_rfl) (fun _ _ _ h => h) (by kernel_rfl) (by kernel_rfl) (fun _ _ => by kernel_rfl) hq6.ri ?_
              simp only [Act.put, n1, n2, n3]
              refine wpAnyH_done (by kernel_rfl) ?_ _
              try simp only [Act.put, n1, n2, n3]
              rw [hLB] at hq6
              have LN : Hid (RJ w X6 T T2 [(B3, [.pointer (some ⟨T.t, 0, none⟩)]), (B5, [.bool false])] (.slice A6 (xs.length + 2) c6) (xs ++ [0, (T2.live.length : Int)]) (ds)) := hide (RJ.left (L := [(B3, [.pointer (some ⟨T.t, 0, none⟩)]), (B5, [.bool false])]) (M := _) hq6)
              clear hq0 hq4 hq6 hLL hLB hg3 hg11 hI4 hb4 hO6 hg6 hF6 hS0 HLN LL
              go_wp2
              rw [show ((i : Int) + 1) = ((i + 1 : Nat) : Int) from rfl]
              exact (Handed.intro (l.length - (i + 1)) (by have := unhide HLT; omega) (hJ _ _ _ (LI8.mk (i + 1) T2 _ (ds) _ _ _ _ _ _ _ _ _ _ _ _ _ _ _ _ _ _ _ _ _ _ _ _ _ _ _ _ _ _ _ _ _ _ _ _ _ _ _ _ _ _ _ _ _ _ _ _ _ _ _ _ _ _ _ _ _ _ _ _ _ _ _ _ _ _ _ _ _ _ _ _ _ _ _ _ _ _ _ _ _ _ _ _ _ _ _ _ _ _ _ _ _ _ _ _ _ _ _ _ _ _ _ _ _ _ _ _ _ _ _ _ _ _ _ _ _ _ _ _ _ _ _ _ _ _ _ _ _ _ _ _ _ _ _ _ _ _ (by have := unhide HLT; omega) (Nat.le_refl _) (hide ⟨unhide LN, by have h1 := unhide HDR; rw [← unhide HF, ← unhide HV] at h1; have h2 := (unhide HI).2.1; rw [h1, abs_len] at h2; exact h2, by have h1 := act_last x (abs T1); rw [← unhide HF] at h1; have h2 : T2.last ≤ T1.last + 201 := h1; have h3 := (unhide HI).2.2.1; omega, (unhide HI).2.2.2.1, (unhide HI).2.2.2.2.1, by have := (unhide HI).2.2.2.2.2; simp; omega⟩))))
            · have HV : Hid ((1 : Int) = (actA x (abs T1)).2) := hide (by rw [unhide HAC]; simp [hhas])
              clear hhas
              go_wp2_with (first | go_skip | ((with_reducible show wpList _ _ _ _ _ _); first | ((refine stK (vs := [.int .i64 1]) 3 3 (by rfl) rfl rfl rfl rfl (by simp [Value.oneCell']) siz3 (unhide LL) rfl (by simp [cput, zeroAct, actCs, zeroK, zeroD, KK.cs, DD.cs, VV.cs]) (unhide hB11) ?_); intro X14 L14; replace LL := hide L14; clear L14; simp only [Act.put, n1, n2, n3])))
              obtain ⟨LB, hLB, hLL⟩ : ∃ LB, LB = _ ∧ RJ w _ T T2 LB tv xs ds := ⟨_, rfl, unhide LL⟩
              have hg3 : LB[0]? = some (B3, [.pointer (some ⟨T.t, 0, none⟩)]) := by rw [hLB]; rfl
              have hg11 : LB[3]? = some (B11, [.int .i64 (1)]) := by rw [hLB]; rfl
              have hq0 := hLL.drew
              refine wp_region_held_drew (P := Tryd.prog) (S := fun X => RI w X T T2 LB) (by kernel_rfl) hq0.ri (fun hS0 => ?_)
              refine gsem 0 (some 138) (tv) rfl (by kernel_rfl) (by kernel_rfl) (by kernel_rfl) (fun _ _ _ h => h) (by kernel_rfl) (by kernel_rfl) (fun _ _ => by kernel_rfl) hq0.ri ?_
              simp only [Act.put, n1, n2, n3]
              refine gsem 1 (some 139) (.int .i64 (1)) rfl (by kernel_rfl) (by kernel_rfl) (by kernel_rfl) (fun _ _ _ h => h) (by kernel_rfl) (by kernel_rfl) (fun X hX => ex_load1 3 Tryd.isAgg3 rfl rfl (hX.hq.get 3 hg11) rfl) hq0.ri ?_
              simp only [Act.put, n1, n2, n3]
              refine gsem 2 (some 140) (.pointer (some ⟨T.t, 0, none⟩)) rfl (by kernel_rfl) (by kernel_rfl) (by kernel_rfl) (fun _ _ _ h => h) (by kernel_rfl) (by kernel_rfl) (fun X hX => ex_load1 29 Tryd.isAgg29 rfl rfl (hX.hq.get 0 hg3) rfl) hq0.ri ?_
              simp only [Act.put, n1, n2, n3]
              have HLN := hide (len30 T2 _ hq0.ri.is)
              rw [hq0.ri.tq] at HLN
              refine wpAnyH_ready (rs := [3]) (by kernel_rfl) (by simp) (gcallR 3 (some 141) rfl (by kernel_rfl) (by kernel_rfl) (by kernel_rfl) (unhide HLN) ?_ AllReadyH.nil)
              rintro _ Y3 ⟨rfl, hY3⟩
              subst hY3
              refine ⟨_, rfl, hq0.ri, ?_⟩
              simp only [Act.put, n1, n2, n3]
              have hI4 := hq0.fresh ([.int .i64 (1), .int .i64 (T2.live.length : Nat)]) 3
              have hb4 := hq0.bl (Obj.cells ([.int .i64 (1), .int .i64 (T2.live.length : Nat)]).toArray 3)
              refine wpAnyH_ready (rs := [4]) (by kernel_rfl) (by simp) (gval 4 (some 142) rfl (by kernel_rfl) (by kernel_rfl) (ex_build26 (1) (T2.live.length : Nat) rfl rfl rfl) (hq0.ri.on hb4) ?_ AllReadyH.nil)
              simp only [Act.put, n1, n2, n3]
              have hq4 := hq0.on hb4
              refine wpAnyH_ready (rs := [5]) (by kernel_rfl) (by simp) (gappF (base := w.heap.size) (size := 1) (bytes := 8) (k := xs.length) (m := 2) (news := [.int .i64 (1), .int .i64 (T2.live.length : Nat)]) (xs := xs.map (fun z => .int .i64 z)) (v := tv) 5 (some 143) rfl (by kernel_rfl) (by kernel_rfl) rfl rfl rfl Tryd.underlying26 inf3 rfl (by decide) hq4.own hI4 rfl (by simp [Value.oneCell']) (by have := unhide HXS; omega) (by decide) hq4.fr.size (fun X hg => hq4.ri_grown hg) ?_ AllReadyH.nil)
              intro A6 c6 X6 hO6 hg6 hF6
              simp only [Act.put, n1, n2, n3]
              have hq6 := hq4.app (ys := [1, (T2.live.length : Int)]) (tv2 := .slice A6 (xs.length + 2) c6) (by simpa using hO6) hg6 hF6
              refine gsem 6 (some 8) (.slice A6 (xs.length + 2) c6) rfl (by kernel_rfl) (by kernel_rfl) (by kernel_rfl) (fun _ _ _ h => h) (by kernel_rfl) (by kernel_rfl) (fun _ _ => by kernel_rfl) hq6.ri ?_
              simp only [Act.put, n1, n2, n3]
              refine wpAnyH_done (by kernel_rfl) ?_ _
              try simp only [Act.put, n1, n2, n3]
              rw [hLB] at hq6
              have LN : Hid (RJ w X6 T T2 [(B3, [.pointer (some ⟨T.t, 0, none⟩)]), (B5, [.bool false])] (.slice A6 (xs.length + 2) c6) (xs ++ [1, (T2.live.length : Int)]) (ds)) := hide (RJ.left (L := [(B3, [.pointer (some ⟨T.t, 0, none⟩)]), (B5, [.bool false])]) (M := _) hq6)
              clear hq0 hq4 hq6 hLL hLB hg3 hg11 hI4 hb4 hO6 hg6 hF6 hS0 HLN LL
              go_wp2
              rw [show ((i : Int) + 1) = ((i + 1 : Nat) : Int) from rfl]
              exact (Handed.intro (l.length - (i + 1)) (by have := unhide HLT; omega) (hJ _ _ _ (LI8.mk (i + 1) T2 _ (ds) _ _ _ _ _ _ _ _ _ _ _ _ _ _ _ _ _ _ _ _ _ _ _ _ _ _ _ _ _ _ _ _ _ _ _ _ _ _ _ _ _ _ _ _ _ _ _ _ _ _ _ _ _ _ _ _ _ _ _ _ _ _ _ _ _ _ _ _ _ _ _ _ _ _ _ _ _ _ _ _ _ _ _ _ _ _ _ _ _ _ _ _ _ _ _ _ _ _ _ _ _ _ _ _ _ _ _ _ _ _ _ _ _ _ _ _ _ _ _ _ _ _ _ _ _ _ _ _ _ _ _ _ _ _ _ _ _ _ (by have := unhide HLT; omega) (Nat.le_refl _) (hide ⟨unhide LN, by have h1 := unhide HDR; rw [← unhide HF, ← unhide HV] at h1; have h2 := (unhide HI).2.1; rw [h1, abs_len] at h2; exact h2, by have h1 := act_last x (abs T1); rw [← unhide HF] at h1; have h2 : T2.last ≤ T1.last + 201 := h1; have h3 := (unhide HI).2.2.1; omega, (unhide HI).2.2.2.1, (unhide HI).2.2.2.2.1, by have := (unhide HI).2.2.2.2.2; simp; omega⟩))))
          · by_cases h3 : x.kd = 3
            · have he3 : (x.kd == 3) = true := by simp [h3]
              have he1 : (x.kd == 1) = false := by simp [h1]
              have he2 : (x.kd == 2) = false := by simp [h2]
              have HAC : Hid (actA x (abs T1) = (⟨[], (abs T1).last⟩, 0)) := hide (by unfold actA; rw [if_neg h1, if_neg h2, if_pos h3])
              clear h1 h2 h3
              go_wp2_with (first | go_skip | ((with_reducible show wpList _ _ _ _ _ _); first | ((refine vl (by rfl) (ex_load1 29 Tryd.isAgg29 rfl rfl ((unhide LL).get 0 rfl) rfl) ?_); simp only [Act.put, n1, n2, n3]) | ((refine vl (by rfl) (ex_load1 4 Tryd.isAgg4 rfl rfl ((unhide LL).get 1 rfl) rfl) ?_); simp only [Act.put, n1, n2, n3]) | ((refine vl (by rfl) (ex_load1 3 Tryd.isAgg3 rfl rfl ((unhide LL).get 2 rfl) rfl) ?_); simp only [Act.put, n1, n2, n3]) | ((refine vl (by rfl) (ex_loadN (vs := x.k.cs) 34 2 row33x siz33 rfl rfl ((unhide LL).get 2 rfl) rfl rfl) ?_); simp only [Act.put, n1, n2, n3]) | ((refine vl (by rfl) (ex_loadN (vs := x.d.cs) 40 18 row39 siz39 rfl rfl ((unhide LL).get 2 rfl) rfl rfl) ?_); simp only [Act.put, n1, n2, n3]) | ((refine vl (by rfl) (ex_lenG 22 42 Tryd.underlying22 rfl rfl) ?_); simp only [Act.put, n1, n2, n3]) | ((refine vl (by rfl) (ex_indexG 22 23 i und22 idx22 rfl rfl rfl (unhide HLT)) ?_); simp only [Act.put, n1, n2, n3]) | ((refine vl (by rfl) (ex_loadR (vs := actCs x.kd x.k x.d x.n (.slice IA x.il.length ic)) 42 23 row41 siz41 rfl rfl (unhide HA2 _ (unhide LL).fr) rfl) ?_); simp only [Act.put, n1, n2, n3]) | ((refine alK (v := .agg (zeroAct).toArray) 42 (zeroAct) (by rfl) rfl (fun w => by kernel_rfl) rfl (Nat.succ_pos _) (unhide LL) ?_); intro X10 B10 hB10 L10; replace hB10 := hide hB10; replace LL := hide L10; clear L10; simp only [Act.put, n1, n2, n3]) | ((refine stK (vs := actCs x.kd x.k x.d x.n (.slice IA x.il.length ic)) 2 42 (by rfl) rfl rfl rfl rfl (act_one _ _ _ _ _ _ _) siz41 (unhide LL) rfl (by simp [cput, zeroAct, actCs, zeroK, zeroD, KK.cs, DD.cs, VV.cs]) (unhide hB10) ?_); intro X12 L12; replace LL := hide L12; clear L12; simp only [Act.put, n1, n2, n3]) | ((refine alK (v := .int .i64 0) 3 ([.int .i64 0]) (by rfl) rfl (fun w => by kernel_rfl) rfl (Nat.succ_pos _) (unhide LL) ?_); intro X11 B11 hB11 L11; replace hB11 := hide hB11; replace LL := hide L11; clear L11; simp only [Act.put, n1, n2, n3]) | ((refine stK (vs := [.int .i64 0]) 3 3 (by rfl) rfl rfl rfl rfl (by simp [Value.oneCell']) siz3 (unhide LL) rfl (by simp [cput, zeroAct, actCs, zeroK, zeroD, KK.cs, DD.cs, VV.cs]) (unhide hB11) ?_); intro X13 L13; replace LL := hide L13; clear L13; simp only [Act.put, n1, n2, n3])))
              have HCL := hide (clear16 Tc _ (unhide LL).ri.is)
              rw [(unhide LL).ri.tq] at HCL
              refine (unhide HCL).mono ?_
              rintro _ Y ⟨rfl, T2, hto, hl2⟩
              have hT2 := hto.is
              have ht2 : T2.t = T.t := hto.t.trans (unhide LL).ri.tq
              have hf2 := hto.fr
              have hb2 := hto.new
              have HF : Hid (abs T2 = (actA x (abs T1)).1) := hide (by rw [unhide HAC]; unfold abs; rw [hl2, hto.last]; have := congrArg AS.last (unhide HTC); simp [abs] at this ⊢; exact this)
              have HV : Hid ((0 : Int) = (actA x (abs T1)).2) := hide (by rw [unhide HAC])
              clear hto hl2 HCL
              replace LL := hide ((unhide LL).step hT2 (ht2.trans (unhide LL).ri.tq.symm) hf2 hb2)
              clear hT2 ht2 hf2 hb2
              go_wp2_with fail
              obtain ⟨LB, hLB, hLL⟩ : ∃ LB, LB = _ ∧ RJ w _ T T2 LB tv xs ds := ⟨_, rfl, unhide LL⟩
              have hg3 : LB[0]? = some (B3, [.pointer (some ⟨T.t, 0, none⟩)]) := by rw [hLB]; rfl
              have hg11 : LB[3]? = some (B11, [.int .i64 (0)]) := by rw [hLB]; rfl
              have hq0 := hLL.drew
              refine wp_region_held_drew (P := Tryd.prog) (S := fun X => RI w X T T2 LB) (by kernel_rfl) hq0.ri (fun hS0 => ?_)
              refine gsem 0 (some 138) (tv) rfl (by kernel_rfl) (by kernel_rfl) (by kernel_rfl) (fun _ _ _ h => h) (by kernel_rfl) (by kernel_rfl) (fun _ _ => by kernel_rfl) hq0.ri ?_
              simp only [Act.put, n1, n2, n3]
              refine gsem 1 (some 139) (.int .i64 (0)) rfl (by kernel_rfl) (by kernel_rfl) (by kernel_rfl) (fun _ _ _ h => h) (by kernel_rfl) (by kernel_rfl) (fun X hX => ex_load1 3 Tryd.isAgg3 rfl rfl (hX.hq.get 3 hg11) rfl) hq0.ri ?_
              simp only [Act.put, n1, n2, n3]
              refine gsem 2 (some 140) (.pointer (some ⟨T.t, 0, none⟩)) rfl (by kernel_rfl) (by kernel_rfl) (by kernel_rfl) (fun _ _ _ h => h) (by kernel_rfl) (by kernel_rfl) (fun X hX => ex_load1 29 Tryd.isAgg29 rfl rfl (hX.hq.get 0 hg3) rfl) hq0.ri ?_
              simp only [Act.put, n1, n2, n3]
              have HLN := hide (len30 T2 _ hq0.ri.is)
              rw [hq0.ri.tq] at HLN
              refine wpAnyH_ready (rs := [3]) (by kernel_rfl) (by simp) (gcallR 3 (some 141) rfl (by kernel_rfl) (by kernel_rfl) (by kernel_rfl) (unhide HLN) ?_ AllReadyH.nil)
              rintro _ Y3 ⟨rfl, hY3⟩
              subst hY3
              refine ⟨_, rfl, hq0.ri, ?_⟩
              simp only [Act.put, n1, n2, n3]
              have hI4 := hq0.fresh ([.int .i64 (0), .int .i64 (T2.live.length : Nat)]) 3
              have hb4 := hq0.bl (Obj.cells ([.int .i64 (0), .int .i64 (T2.live.length : Nat)]).toArray 3)
              refine wpAnyH_ready (rs := [4]) (by kernel_rfl) (by simp) (gval 4 (some 142) rfl (by kernel_rfl) (by kernel_rfl) (ex_build26 (0) (T2.live.length : Nat) rfl rfl rfl) (hq0.ri.on hb4) ?_ AllReadyH.nil)
              simp only [Act.put, n1, n2, n3]
              have hq4 := hq0.on hb4
              refine wpAnyH_ready (rs := [5]) (by kernel_rfl) (by simp) (gappF (base := w.heap.size) (size := 1) (bytes := 8) (k := xs.length) (m := 2) (news := [.int .i64 (0), .int .i64 (T2.live.length : Nat)]) (xs := xs.map (fun z => .int .i64 z)) (v := tv) 5 (some 143) rfl (by kernel_rfl) (by kernel_rfl) rfl rfl rfl Tryd.underlying26 inf3 rfl (by decide) hq4.own hI4 rfl (by simp [Value.oneCell']) (by have := unhide HXS; omega) (by decide) hq4.fr.size (fun X hg => hq4.ri_grown hg) ?_ AllReadyH.nil)
              intro A6 c6 X6 hO6 hg6 hF6
              simp only [Act.put, n1, n2, n3]
              have hq6 := hq4.app (ys := [0, (T2.live.length : Int)]) (tv2 := .slice A6 (xs.length + 2) c6) (by simpa using hO6) hg6 hF6
              refine gsem 6 (some 8) (.slice A6 (xs.length + 2) c6) rfl (by kernel_rfl) (by kernel_rfl) (by kernel_rfl) (fun _ _ _ h => h) (by kernel_rfl) (by kernel_rfl) (fun _ _ => by kernel_rfl) hq6.ri ?_
              simp only [Act.put, n1, n2, n3]
              refine wpAnyH_done (by kernel_rfl) ?_ _
              try simp only [Act.put, n1, n2, n3]
              rw [hLB] at hq6
              have LN : Hid (RJ w X6 T T2 [(B3, [.pointer (some ⟨T.t, 0, none⟩)]), (B5, [.bool false])] (.slice A6 (xs.length + 2) c6) (xs ++ [0, (T2.live.length : Int)]) (ds)) := hide (RJ.left (L := [(B3, [.pointer (some ⟨T.t, 0, none⟩)]), (B5, [.bool false])]) (M := _) hq6)
              clear hq0 hq4 hq6 hLL hLB hg3 hg11 hI4 hb4 hO6 hg6 hF6 hS0 HLN LL
              go_wp2
              rw [show ((i : Int) + 1) = ((i + 1 : Nat) : Int) from rfl]
              exact (Handed.intro (l.length - (i + 1)) (by have := unhide HLT; omega) (hJ _ _ _ (LI8.mk (i + 1) T2 _ (ds) _ _ _ _ _ _ _ _ _ _ _ _ _ _ _ _ _ _ _ _ _ _ _ _ _ _ _ _ _ _ _ _ _ _ _ _ _ _ _ _ _ _ _ _ _ _ _ _ _ _ _ _ _ _ _ _ _ _ _ _ _ _ _ _ _ _ _ _ _ _ _ _ _ _ _ _ _ _ _ _ _ _ _ _ _ _ _ _ _ _ _ _ _ _ _ _ _ _ _ _ _ _ _ _ _ _ _ _ _ _ _ _ _ _ _ _ _ _ _ _ _ _ _ _ _ _ _ _ _ _ _ _ _ _ _ _ _ _ (by have := unhide HLT; omega) (Nat.le_refl _) (hide ⟨unhide LN, by have h1 := unhide HDR; rw [← unhide HF, ← unhide HV] at h1; have h2 := (unhide HI).2.1; rw [h1, abs_len] at h2; exact h2, by have h1 := act_last x (abs T1); rw [← unhide HF] at h1; have h2 : T2.last ≤ T1.last + 201 := h1; have h3 := (unhide HI).2.2.1; omega, (unhide HI).2.2.2.1, (unhide HI).2.2.2.2.1, by have := (unhide HI).2.2.2.2.2; simp; omega⟩))))
            · by_cases h5 : x.kd = 5
              · have he5 : (x.kd == 5) = true := by simp [h5]
                have he1 : (x.kd == 1) = false := by simp [h1]
                have he2 : (x.kd == 2) = false := by simp [h2]
                have he3 : (x.kd == 3) = false := by simp [h3]
                have HAC : Hid (actA x (abs T1) = (abs T1, if (abs T1).has x.k then 1 else 0)) := hide (by unfold actA; rw [if_neg h1, if_neg h2, if_neg h3, if_pos h5])
                clear h1 h2 h3 h5
                go_wp2_with (first | go_skip | ((with_reducible show wpList _ _ _ _ _ _); first | ((refine vl (by rfl) (ex_load1 29 Tryd.isAgg29 rfl rfl ((unhide LL).get 0 rfl) rfl) ?_); simp only [Act.put, n1, n2, n3]) | ((refine vl (by rfl) (ex_load1 4 Tryd.isAgg4 rfl rfl ((unhide LL).get 1 rfl) rfl) ?_); simp only [Act.put, n1, n2, n3]) | ((refine vl (by rfl) (ex_load1 3 Tryd.isAgg3 rfl rfl ((unhide LL).get 2 rfl) rfl) ?_); simp only [Act.put, n1, n2, n3]) | ((refine vl (by rfl) (ex_loadN (vs := x.k.cs) 34 2 row33x siz33 rfl rfl ((unhide LL).get 2 rfl) rfl rfl) ?_); simp only [Act.put, n1, n2, n3]) | ((refine vl (by rfl) (ex_loadN (vs := x.d.cs) 40 18 row39 siz39 rfl rfl ((unhide LL).get 2 rfl) rfl rfl) ?_); simp only [Act.put, n1, n2, n3]) | ((refine vl (by rfl) (ex_lenG 22 42 Tryd.underlying22 rfl rfl) ?_); simp only [Act.put, n1, n2, n3]) | ((refine vl (by rfl) (ex_indexG 22 23 i und22 idx22 rfl rfl rfl (unhide HLT)) ?_); simp only [Act.put, n1, n2, n3]) | ((refine vl (by rfl) (ex_loadR (vs := actCs x.kd x.k x.d x.n (.slice IA x.il.length ic)) 42 23 row41 siz41 rfl rfl (unhide HA2 _ (unhide LL).fr) rfl) ?_); simp only [Act.put, n1, n2, n3]) | ((refine alK (v := .agg (zeroAct).toArray) 42 (zeroAct) (by rfl) rfl (fun w => by kernel_rfl) rfl (Nat.succ_pos _) (unhide LL) ?_); intro X10 B10 hB10 L10; replace hB10 := hide hB10; replace LL := hide L10; clear L10; simp only [Act.put, n1, n2, n3]) | ((refine stK (vs := actCs x.kd x.k x.d x.n (.slice IA x.il.length ic)) 2 42 (by rfl) rfl rfl rfl rfl (act_one _ _ _ _ _ _ _) siz41 (unhide LL) rfl (by simp [cput, zeroAct, actCs, zeroK, zeroD, KK.cs, DD.cs, VV.cs]) (unhide hB10) ?_); intro X12 L12; replace LL := hide L12; clear L12; simp only [Act.put, n1, n2, n3]) | ((refine alK (v := .int .i64 0) 3 ([.int .i64 0]) (by rfl) rfl (fun w => by kernel_rfl) rfl (Nat.succ_pos _) (unhide LL) ?_); intro X11 B11 hB11 L11; replace hB11 := hide hB11; replace LL := hide L11; clear L11; simp only [Act.put, n1, n2, n3]) | ((refine stK (vs := [.int .i64 0]) 3 3 (by rfl) rfl rfl rfl rfl (by simp [Value.oneCell']) siz3 (unhide LL) rfl (by simp [cput, zeroAct, actCs, zeroK, zeroD, KK.cs, DD.cs, VV.cs]) (unhide hB11) ?_); intro X13 L13; replace LL := hide L13; clear L13; simp only [Act.put, n1, n2, n3])))
                have HGT := hide (get19 Tc x.k _ (unhide LL).ri.is (unhide HOK))
                rw [(unhide LL).ri.tq] at HGT
                have hhas : (abs T1).has x.k = (Tc.find x.k).isSome := by rw [← unhide HTC, abs_has]
                obtain ⟨fb, hfb⟩ : ∃ fb, (Tc.find x.k).isSome = fb := ⟨_, rfl⟩
                rw [hfb] at HGT hhas
                clear hfb
                refine (unhide HGT).mono ?_
                rintro _ Y ⟨rfl, hbn⟩
                replace LL := hide ((unhide LL).on hbn)
                clear hbn HGT
                have HF : Hid (abs Tc = (actA x (abs T1)).1) := hide (by rw [unhide HAC]; exact unhide HTC)
                cases fb
                · have HV : Hid ((0 : Int) = (actA x (abs T1)).2) := hide (by rw [unhide HAC]; simp [hhas])
                  clear hhas
                  go_wp2_with (first | go_skip | ((with_reducible show wpList _ _ _ _ _ _); first | ((refine alK (v := .agg (zeroD.cs).toArray) 40 (zeroD.cs) (by rfl) rfl (fun w => by kernel_rfl) rfl (Nat.succ_pos _) (unhide LL) ?_); intro X20 B20 hB20 L20; replace hB20 := hide hB20; replace LL := hide L20; clear L20; simp only [Act.put, n1, n2, n3]) | ((refine stK (vs := (getD Tc x.k).cs) 4 40 (by rfl) rfl rfl rfl rfl (by simp [DD.cs, VV.cs, Value.oneCell']) siz39 (unhide LL) rfl (by simp [cput, zeroAct, actCs, zeroK, zeroD, KK.cs, DD.cs, VV.cs]) (unhide hB20) ?_); intro X21 L21; replace LL := hide L21; clear L21; simp only [Act.put, n1, n2, n3])))
                  obtain ⟨LB, hLB, hLL⟩ : ∃ LB, LB = _ ∧ RJ w _ T Tc LB tv xs ds := ⟨_, rfl, unhide LL⟩
                  have hg3 : LB[0]? = some (B3, [.pointer (some ⟨T.t, 0, none⟩)]) := by rw [hLB]; rfl
                  have hg11 : LB[3]? = some (B11, [.int .i64 (0)]) := by rw [hLB]; rfl
                  have hq0 := hLL.drew
                  refine wp_region_held_drew (P := Tryd.prog) (S := fun X => RI w X T Tc LB) (by kernel_rfl) hq0.ri (fun hS0 => ?_)
                  refine gsem 0 (some 138) (tv) rfl (by kernel_rfl) (by kernel_rfl) (by kernel_rfl) (fun _ _ _ h => h) (by kernel_rfl) (by kernel_rfl) (fun _ _ => by kernel_rfl) hq0.ri ?_
                  simp only [Act.put, n1, n2, n3]
                  refine gsem 1 (some 139) (.int .i64 (0)) rfl (by kernel_rfl) (by kernel_rfl) (by kernel_rfl) (fun _ _ _ h => h) (by kernel_rfl) (by kernel_rfl) (fun X hX => ex_load1 3 Tryd.isAgg3 rfl rfl (hX.hq.get 3 hg11) rfl) hq0.ri ?_
                  simp only [Act.put, n1, n2, n3]
                  refine gsem 2 (some 140) (.pointer (some ⟨T.t, 0, none⟩)) rfl (by kernel_rfl) (by kernel_rfl) (by kernel_rfl) (fun _ _ _ h => h) (by kernel_rfl) (by kernel_rfl) (fun X hX => ex_load1 29 Tryd.isAgg29 rfl rfl (hX.hq.get 0 hg3) rfl) hq0.ri ?_
                  simp only [Act.put, n1, n2, n3]
                  have HLN := hide (len30 Tc _ hq0.ri.is)
                  rw [hq0.ri.tq] at HLN
                  refine wpAnyH_ready (rs := [3]) (by kernel_rfl) (by simp) (gcallR 3 (some 141) rfl (by kernel_rfl) (by kernel_rfl) (by kernel_rfl) (unhide HLN) ?_ AllReadyH.nil)
                  rintro _ Y3 ⟨rfl, hY3⟩
                  subst hY3
                  refine ⟨_, rfl, hq0.ri, ?_⟩
                  simp only [Act.put, n1, n2, n3]
                  have hI4 := hq0.fresh ([.int .i64 (0), .int .i64 (Tc.live.length : Nat)]) 3
                  have hb4 := hq0.bl (Obj.cells ([.int .i64 (0), .int .i64 (Tc.live.length : Nat)]).toArray 3)
                  refine wpAnyH_ready (rs := [4]) (by kernel_rfl) (by simp) (gval 4 (some 142) rfl (by kernel_rfl) (by kernel_rfl) (ex_build26 (0) (Tc.live.length : Nat) rfl rfl rfl) (hq0.ri.on hb4) ?_ AllReadyH.nil)
                  simp only [Act.put, n1, n2, n3]
                  have hq4 := hq0.on hb4
                  refine wpAnyH_ready (rs := [5]) (by kernel_rfl) (by simp) (gappF (base := w.heap.size) (size := 1) (bytes := 8) (k := xs.length) (m := 2) (news := [.int .i64 (0), .int .i64 (Tc.live.length : Nat)]) (xs := xs.map (fun z => .int .i64 z)) (v := tv) 5 (some 143) rfl (by kernel_rfl) (by kernel_rfl) rfl rfl rfl Tryd.underlying26 inf3 rfl (by decide) hq4.own hI4 rfl (by simp [Value.oneCell']) (by have := unhide HXS; omega) (by decide) hq4.fr.size (fun X hg => hq4.ri_grown hg) ?_ AllReadyH.nil)
                  intro A6 c6 X6 hO6 hg6 hF6
                  simp only [Act.put, n1, n2, n3]
                  have hq6 := hq4.app (ys := [0, (Tc.live.length : Int)]) (tv2 := .slice A6 (xs.length + 2) c6) (by simpa using hO6) hg6 hF6
                  refine gsem 6 (some 8) (.slice A6 (xs.length + 2) c6) rfl (by kernel_rfl) (by kernel_rfl) (by kernel_rfl) (fun _ _ _ h => h) (by kernel_rfl) (by kernel_rfl) (fun _ _ => by kernel_rfl) hq6.ri ?_
                  simp only [Act.put, n1, n2, n3]
                  refine wpAnyH_done (by kernel_rfl) ?_ _
                  try simp only [Act.put, n1, n2, n3]
                  rw [hLB] at hq6
                  have LN : Hid (RJ w X6 T Tc [(B3, [.pointer (some ⟨T.t, 0, none⟩)]), (B5, [.bool false])] (.slice A6 (xs.length + 2) c6) (xs ++ [0, (Tc.live.length : Int)]) (ds)) := hide (RJ.left (L := [(B3, [.pointer (some ⟨T.t, 0, none⟩)]), (B5, [.bool false])]) (M := _) hq6)
                  clear hq0 hq4 hq6 hLL hLB hg3 hg11 hI4 hb4 hO6 hg6 hF6 hS0 HLN LL
                  go_wp2
                  rw [show ((i : Int) + 1) = ((i + 1 : Nat) : Int) from rfl]
                  exact (Handed.intro (l.length - (i + 1)) (by have := unhide HLT; omega) (hJ _ _ _ (LI8.mk (i + 1) Tc _ (ds) _ _ _ _ _ _ _ _ _ _ _ _ _ _ _ _ _ _ _ _ _ _ _ _ _ _ _ _ _ _ _ _ _ _ _ _ _ _ _ _ _ _ _ _ _ _ _ _ _ _ _ _ _ _ _ _ _ _ _ _ _ _ _ _ _ _ _ _ _ _ _ _ _ _ _ _ _ _ _ _ _ _ _ _ _ _ _ _ _ _ _ _ _ _ _ _ _ _ _ _ _ _ _ _ _ _ _ _ _ _ _ _ _ _ _ _ _ _ _ _ _ _ _ _ _ _ _ _ _ _ _ _ _ _ _ _ _ _ (by have := unhide HLT; omega) (Nat.le_refl _) (hide ⟨unhide LN, by have h1 := unhide HDR; rw [← unhide HF, ← unhide HV] at h1; have h2 := (unhide HI).2.1; rw [h1, abs_len] at h2; exact h2, by have h1 := act_last x (abs T1); rw [← unhide HF] at h1; have h2 : Tc.last ≤ T1.last + 201 := h1; have h3 := (unhide HI).2.2.1; omega, (unhide HI).2.2.2.1, (unhide HI).2.2.2.2.1, by have := (unhide HI).2.2.2.2.2; simp; omega⟩))))
                · have HV : Hid ((1 : Int) = (actA x (abs T1)).2) := hide (by rw [unhide HAC]; simp [hhas])
                  clear hhas
                  go_wp2_with (first | go_skip | ((with_reducible show wpList _ _ _ _ _ _); first | ((refine alK (v := .agg (zeroD.cs).toArray) 40 (zeroD.cs) (by rfl) rfl (fun w => by kernel_rfl) rfl (Nat.succ_pos _) (unhide LL) ?_); intro X20 B20 hB20 L20; replace hB20 := hide hB20; replace LL := hide L20; clear L20; simp only [Act.put, n1, n2, n3]) | ((refine stK (vs := (getD Tc x.k).cs) 4 40 (by rfl) rfl rfl rfl rfl (by simp [DD.cs, VV.cs, Value.oneCell']) siz39 (unhide LL) rfl (by simp [cput, zeroAct, actCs, zeroK, zeroD, KK.cs, DD.cs, VV.cs]) (unhide hB20) ?_); intro X21 L21; replace LL := hide L21; clear L21; simp only [Act.put, n1, n2, n3]) | ((refine stK (vs := [.int .i64 1]) 3 3 (by rfl) rfl rfl rfl rfl (by simp [Value.oneCell']) siz3 (unhide LL) rfl (by simp [cput, zeroAct, actCs, zeroK, zeroD, KK.cs, DD.cs, VV.cs]) (unhide hB11) ?_); intro X14 L14; replace LL := hide L14; clear L14; simp only [Act.put, n1, n2, n3])))
                  obtain ⟨LB, hLB, hLL⟩ : ∃ LB, LB = _ ∧ RJ w _ T Tc LB tv xs ds := ⟨_, rfl, unhide LL⟩
                  have hg3 : LB[0]? = some (B3, [.pointer (some ⟨T.t, 0, none⟩)]) := by rw [hLB]; rfl
                  have hg11 : LB[3]? = some (B11, [.int .i64 (1)]) := by rw [hLB]; rfl
                  have hq0 := hLL.drew
                  refine wp_region_held_drew (P := Tryd.prog) (S := fun X => RI w X T Tc LB) (by kernel_rfl) hq0.ri (fun hS0 => ?_)
                  refine gsem 0 (some 138) (tv) rfl (by kernel_rfl) (by kernel_rfl) (by kernel_rfl) (fun _ _ _ h => h) (by kernel_rfl) (by kernel_rfl) (fun _ _ => by kernel_rfl) hq0.ri ?_
                  simp only [Act.put, n1, n2, n3]
                  refine gsem 1 (some 139) (.int .i64 (1)) rfl (by kernel_rfl) (by kernel_rfl) (by kernel_rfl) (fun _ _ _ h => h) (by kernel_rfl) (by kernel_rfl) (fun X hX => ex_load1 3 Tryd.isAgg3 rfl rfl (hX.hq.get 3 hg11) rfl) hq0.ri ?_
                  simp only [Act.put, n1, n2, n3]
                  refine gsem 2 (some 140) (.pointer (some ⟨T.t, 0, none⟩)) rfl (by kernel_rfl) (by kernel_rfl) (by kernel_rfl) (fun _ _ _ h => h) (by kernel_rfl) (by kernel_rfl) (fun X hX => ex_load1 29 Tryd.isAgg29 rfl rfl (hX.hq.get 0 hg3) rfl) hq0.ri ?_
                  simp only [Act.put, n1, n2, n3]
                  have HLN := hide (len30 Tc _ hq0.ri.is)
                  rw [hq0.ri.tq] at HLN
                  refine wpAnyH_ready (rs := [3]) (by kernel_rfl) (by simp) (gcallR 3 (some 141) rfl (by kernel_rfl) (by kernel_rfl) (by kernel_rfl) (unhide HLN) ?_ AllReadyH.nil)
                  rintro _ Y3 ⟨rfl, hY3⟩
                  subst hY3
                  refine ⟨_, rfl, hq0.ri, ?_⟩
                  simp only [Act.put, n1, n2, n3]
                  have hI4 := hq0.fresh ([.int .i64 (1), .int .i64 (Tc.live.length : Nat)]) 3
                  have hb4 := hq0.bl (Obj.cells ([.int .i64 (1), .int .i64 (Tc.live.length : Nat)]).toArray 3)
                  refine wpAnyH_ready (rs := [4]) (by kernel_rfl) (by simp) (gval 4 (some 142) rfl (by kernel_rfl) (by kernel_rfl) (ex_build26 (1) (Tc.live.length : Nat) rfl rfl rfl) (hq0.ri.on hb4) ?_ AllReadyH.nil)
                  simp only [Act.put, n1, n2, n3]
                  have hq4 := hq0.on hb4
                  refine wpAnyH_ready (rs := [5]) (by kernel_rfl) (by simp) (gappF (base := w.heap.size) (size := 1) (bytes := 8) (k := xs.length) (m := 2) (news := [.int .i64 (1), .int .i64 (Tc.live.length : Nat)]) (xs := xs.map (fun z => .int .i64 z)) (v := tv) 5 (some 143) rfl (by kernel_rfl) (by kernel_rfl) rfl rfl rfl Tryd.underlying26 inf3 rfl (by decide) hq4.own hI4 rfl (by simp [Value.oneCell']) (by have := unhide HXS; omega) (by decide) hq4.fr.size (fun X hg => hq4.ri_grown hg) ?_ AllReadyH.nil)
                  intro A6 c6 X6 hO6 hg6 hF6
                  simp only [Act.put, n1, n2, n3]
                  have hq6 := hq4.app (ys := [1, (Tc.live.length : Int)]) (tv2 := .slice A6 (xs.length + 2) c6) (by simpa using hO6) hg6 hF6
                  refine gsem 6 (some 8) (.slice A6 (xs.length + 2) c6) rfl (by kernel_rfl) (by kernel_rfl) (by kernel_rfl) (fun _ _ _ h => h) (by kernel_rfl) (by kernel_rfl) (fun _ _ => by kernel_rfl) hq6.ri ?_
                  simp only [Act.put, n1, n2, n3]
                  refine wpAnyH_done (by kernel_rfl) ?_ _
                  try simp only [Act.put, n1, n2, n3]
                  rw [hLB] at hq6
                  have LN : Hid (RJ w X6 T Tc [(B3, [.pointer (some ⟨T.t, 0, none⟩)]), (B5, [.bool false])] (.slice A6 (xs.length + 2) c6) (xs ++ [1, (Tc.live.length : Int)]) (ds)) := hide (RJ.left (L := [(B3, [.pointer (some ⟨T.t, 0, none⟩)]), (B5, [.bool false])]) (M := _) hq6)
                  clear hq0 hq4 hq6 hLL hLB hg3 hg11 hI4 hb4 hO6 hg6 hF6 hS0 HLN LL
                  go_wp2
                  rw [show ((i : Int) + 1) = ((i + 1 : Nat) : Int) from rfl]
                  exact (Handed.intro (l.length - (i + 1)) (by have := unhide HLT; omega) (hJ _ _ _ (LI8.mk (i + 1) Tc _ (ds) _ _ _ _ _ _ _ _ _ _ _ _ _ _ _ _ _ _ _ _ _ _ _ _ _ _ _ _ _ _ _ _ _ _ _ _ _ _ _ _ _ _ _ _ _ _ _ _ _ _ _ _ _ _ _ _ _ _ _ _ _ _ _ _ _ _ _ _ _ _ _ _ _ _ _ _ _ _ _ _ _ _ _ _ _ _ _ _ _ _ _ _ _ _ _ _ _ _ _ _ _ _ _ _ _ _ _ _ _ _ _ _ _ _ _ _ _ _ _ _ _ _ _ _ _ _ _ _ _ _ _ _ _ _ _ _ _ _ (by have := unhide HLT; omega) (Nat.le_refl _) (hide ⟨unhide LN, by have h1 := unhide HDR; rw [← unhide HF, ← unhide HV] at h1; have h2 := (unhide HI).2.1; rw [h1, abs_len] at h2; exact h2, by have h1 := act_last x (abs T1); rw [← unhide HF] at h1; have h2 : Tc.last ≤ T1.last + 201 := h1; have h3 := (unhide HI).2.2.1; omega, (unhide HI).2.2.2.1, (unhide HI).2.2.2.2.1, by have := (unhide HI).2.2.2.2.2; simp; omega⟩))))
              · by_cases h6 : x.kd = 6
                · have he6 : (x.kd == 6) = true := by simp [h6]
                  have he1 : (x.kd == 1) = false := by simp [h1]
                  have he2 : (x.kd == 2) = false := by simp [h2]
                  have he3 : (x.kd == 3) = false := by simp [h3]
                  have he5 : (x.kd == 5) = false := by simp [h5]
                  have HAC : Hid (actA x (abs T1) = (abs T1, if 0 ≤ x.n ∧ x.n < ((abs T1).l.length : Int) then 1 else 0)) := hide (by unfold actA; rw [if_neg h1, if_neg h2, if_neg h3, if_neg h5, if_pos h6])
                  clear h1 h2 h3 h5 h6
                  have hlen : (abs T1).l.length = Tc.live.length := by rw [← unhide HTC]; simp [abs]
                  by_cases hin6 : 0 ≤ x.n ∧ x.n < (Tc.live.length : Int)
                  · obtain ⟨j, hj⟩ : ∃ j : Nat, x.n = (j : Nat) := ⟨x.n.toNat, by omega⟩
                    have hjl : j < Tc.live.length := by omega
                    have HV : Hid ((1 : Int) = (actA x (abs T1)).2) := hide (by rw [unhide HAC]; simp only [hlen]; rw [if_pos hin6])
                    have HJL := hide hjl
                    have HJ := hide hj
                    clear hin6 hlen hjl hj
                    go_wp2_with (first | go_skip | ((with_reducible show wpList _ _ _ _ _ _); first | ((refine vl (by rfl) (ex_load1 29 Tryd.isAgg29 rfl rfl ((unhide LL).get 0 rfl) rfl) ?_); simp only [Act.put, n1, n2, n3]) | ((refine vl (by rfl) (ex_load1 4 Tryd.isAgg4 rfl rfl ((unhide LL).get 1 rfl) rfl) ?_); simp only [Act.put, n1, n2, n3]) | ((refine vl (by rfl) (ex_load1 3 Tryd.isAgg3 rfl rfl ((unhide LL).get 2 rfl) rfl) ?_); simp only [Act.put, n1, n2, n3]) | ((refine vl (by rfl) (ex_loadN (vs := x.k.cs) 34 2 row33x siz33 rfl rfl ((unhide LL).get 2 rfl) rfl rfl) ?_); simp only [Act.put, n1, n2, n3]) | ((refine vl (by rfl) (ex_loadN (vs := x.d.cs) 40 18 row39 siz39 rfl rfl ((unhide LL).get 2 rfl) rfl rfl) ?_); simp only [Act.put, n1, n2, n3]) | ((refine vl (by rfl) (ex_lenG 22 42 Tryd.underlying22 rfl rfl) ?_); simp only [Act.put, n1, n2, n3]) | ((refine vl (by rfl) (ex_indexG 22 23 i und22 idx22 rfl rfl rfl (unhide HLT)) ?_); simp only [Act.put, n1, n2, n3]) | ((refine vl (by rfl) (ex_loadR (vs := actCs x.kd x.k x.d x.n (.slice IA x.il.length ic)) 42 23 row41 siz41 rfl rfl (unhide HA2 _ (unhide LL).fr) rfl) ?_); simp only [Act.put, n1, n2, n3]) | ((refine alK (v := .agg (zeroAct).toArray) 42 (zeroAct) (by rfl) rfl (fun w => by kernel_rfl) rfl (Nat.succ_pos _) (unhide LL) ?_); intro X10 B10 hB10 L10; replace hB10 := hide hB10; replace LL := hide L10; clear L10; simp only [Act.put, n1, n2, n3]) | ((refine stK (vs := actCs x.kd x.k x.d x.n (.slice IA x.il.length ic)) 2 42 (by rfl) rfl rfl rfl rfl (act_one _ _ _ _ _ _ _) siz41 (unhide LL) rfl (by simp [cput, zeroAct, actCs, zeroK, zeroD, KK.cs, DD.cs, VV.cs]) (unhide hB10) ?_); intro X12 L12; replace LL := hide L12; clear L12; simp only [Act.put, n1, n2, n3]) | ((refine alK (v := .int .i64 0) 3 ([.int .i64 0]) (by rfl) rfl (fun w => by kernel_rfl) rfl (Nat.succ_pos _) (unhide LL) ?_); intro X11 B11 hB11 L11; replace hB11 := hide hB11; replace LL := hide L11; clear L11; simp only [Act.put, n1, n2, n3]) | ((refine stK (vs := [.int .i64 0]) 3 3 (by rfl) rfl rfl rfl rfl (by simp [Value.oneCell']) siz3 (unhide LL) rfl (by simp [cput, zeroAct, actCs, zeroK, zeroD, KK.cs, DD.cs, VV.cs]) (unhide hB11) ?_); intro X13 L13; replace LL := hide L13; clear L13; simp only [Act.put, n1, n2, n3])))
                    have HAT := hide (at_in Tc j _ (unhide LL).ri.is (by have := unhide HLT1; omega) (unhide HJL))
                    rw [(unhide LL).ri.tq, ← unhide HJ] at HAT
                    refine (unhide HAT).mono ?_
                    rintro _ Y ⟨rfl, T2, hto, hl2⟩
                    have hT2 := hto.is
                    have ht2 : T2.t = T.t := hto.t.trans (unhide LL).ri.tq
                    have hf2 := hto.fr
                    have hb2 := hto.new
                    have HF : Hid (abs T2 = (actA x (abs T1)).1) := hide (by rw [unhide HAC]; rw [abs_same hl2 hto.last, unhide HTC])
                    clear hto hl2 HAT
                    replace LL := hide ((unhide LL).step hT2 (ht2.trans (unhide LL).ri.tq.symm) hf2 hb2)
                    clear hT2 ht2 hf2 hb2
                    obtain ⟨pk, hpk⟩ : ∃ pk, pk = Tc.live[j]'(unhide HJL) := ⟨_, rfl⟩
                    rw [← hpk]
                    clear hpk
                    go_wp2_with (first | go_skip | ((with_reducible show wpList _ _ _ _ _ _); first | ((refine alK (v := .agg ((zeroK.cs ++ zeroD.cs)).toArray) 54 ((zeroK.cs ++ zeroD.cs)) (by rfl) rfl (fun w => by kernel_rfl) rfl (Nat.succ_pos _) (unhide LL) ?_); intro X20 B20 hB20 L20; replace hB20 := hide hB20; replace LL := hide L20; clear L20; simp only [Act.put, n1, n2, n3]) | ((refine stK (vs := (pk.k.cs ++ pk.d.cs)) 4 54 (by rfl) rfl rfl rfl rfl (by simp [KK.cs, DD.cs, VV.cs, Value.oneCell']) siz58 (unhide LL) rfl (by simp [cput, zeroAct, actCs, zeroK, zeroD, KK.cs, DD.cs, VV.cs]) (unhide hB20) ?_); intro X21 L21; replace LL := hide L21; clear L21; simp only [Act.put, n1, n2, n3]) | ((refine stK (vs := [.int .i64 1]) 3 3 (by rfl) rfl rfl rfl rfl (by simp [Value.oneCell']) siz3 (unhide LL) rfl (by simp [cput, zeroAct, actCs, zeroK, zeroD, KK.cs, DD.cs, VV.cs]) (unhide hB11) ?_); intro X14 L14; replace LL := hide L14; clear L14; simp only [Act.put, n1, n2, n3])))
                    obtain ⟨LB, hLB, hLL⟩ : ∃ LB, LB = _ ∧ RJ w _ T T2 LB tv xs ds := ⟨_, rfl, unhide LL⟩
                    have hg3 : LB[0]? = some (B3, [.pointer (some ⟨T.t, 0, none⟩)]) := by rw [hLB]; rfl
                    have hg11 : LB[3]? = some (B11, [.int .i64 (1)]) := by rw [hLB]; rfl
                    have hq0 := hLL.drew
                    refine wp_region_held_drew (P := Tryd.prog) (S := fun X => RI w X T T2 LB) (by kernel_rfl) hq0.ri (fun hS0 => ?_)
                    refine gsem 0 (some 138) (tv) rfl (by kernel_rfl) (by kernel_rfl) (by kernel_rfl) (fun _ _ _ h => h) (by kernel_rfl) (by kernel_rfl) (fun _ _ => by kernel_rfl) hq0.ri ?_
                    simp only [Act.put, n1, n2, n3]
                    refine gsem 1 (some 139) (.int .i64 (1)) rfl (by kernel_rfl) (by kernel_rfl) (by kernel_rfl) (fun _ _ _ h => h) (by kernel_rfl) (by kernel_rfl) (fun X hX => ex_load1 3 Tryd.isAgg3 rfl rfl (hX.hq.get 3 hg11) rfl) hq0.ri ?_
                    simp only [Act.put, n1, n2, n3]
                    refine gsem 2 (some 140) (.pointer (some ⟨T.t, 0, none⟩)) rfl (by kernel_rfl) (by kernel_rfl) (by kernel_rfl) (fun _ _ _ h => h) (by kernel_rfl) (by kernel_rfl) (fun X hX => ex_load1 29 Tryd.isAgg29 rfl rfl (hX.hq.get 0 hg3) rfl) hq0.ri ?_
                    simp only [Act.put, n1, n2, n3]
                    have HLN := hide (len30 T2 _ hq0.ri.is)
                    rw [hq0.ri.tq] at HLN
                    refine wpAnyH_ready (rs := [3]) (by kernel_rfl) (by simp) (gcallR 3 (some 141) rfl (by kernel_rfl) (by kernel_rfl) (by kernel_rfl) (unhide HLN) ?_ AllReadyH.nil)
                    rintro _ Y3 ⟨rfl, hY3⟩
                    subst hY3
                    refine ⟨_, rfl, hq0.ri, ?_⟩
                    simp only [Act.put, n1, n2, n3]
                    have hI4 := hq0.fresh ([.int .i64 (1), .int .i64 (T2.live.length : Nat)]) 3
                    have hb4 := hq0.bl (Obj.cells ([.int .i64 (1), .int .i64 (T2.live.length : Nat)]).toArray 3)
                    refine wpAnyH_ready (rs := [4]) (by kernel_rfl) (by simp) (gval 4 (some 142) rfl (by kernel_rfl) (by kernel_rfl) (ex_build26 (1) (T2.live.length : Nat) rfl rfl rfl) (hq0.ri.on hb4) ?_ AllReadyH.nil)
                    simp only [Act.put, n1, n2, n3]
                    have hq4 := hq0.on hb4
                    refine wpAnyH_ready (rs := [5]) (by kernel_rfl) (by simp) (gappF (base := w.heap.size) (size := 1) (bytes := 8) (k := xs.length) (m := 2) (news := [.int .i64 (1), .int .i64 (T2.live.length : Nat)]) (xs := xs.map (fun z => .int .i64 z)) (v := tv) 5 (some 143) rfl (by kernel_rfl) (by kernel_rfl) rfl rfl rfl Tryd.underlying26 inf3 rfl (by decide) hq4.own hI4 rfl (by simp [Value.oneCell']) (by have := unhide HXS; omega) (by decide) hq4.fr.size (fun X hg => hq4.ri_grown hg) ?_ AllReadyH.nil)
                    intro A6 c6 X6 hO6 hg6 hF6
                    simp only [Act.put, n1, n2, n3]
                    have hq6 := hq4.app (ys := [1, (T2.live.length : Int)]) (tv2 := .slice A6 (xs.length + 2) c6) (by simpa using hO6) hg6 hF6
                    refine gsem 6 (some 8) (.slice A6 (xs.length + 2) c6) rfl (by kernel_rfl) (by kernel_rfl) (by kernel_rfl) (fun _ _ _ h => h) (by kernel_rfl) (by kernel_rfl) (fun _ _ => by kernel_rfl) hq6.ri ?_
                    simp only [Act.put, n1, n2, n3]
                    refine wpAnyH_done (by kernel_rfl) ?_ _
                    try simp only [Act.put, n1, n2, n3]
                    rw [hLB] at hq6
                    have LN : Hid (RJ w X6 T T2 [(B3, [.pointer (some ⟨T.t, 0, none⟩)]), (B5, [.bool false])] (.slice A6 (xs.length + 2) c6) (xs ++ [1, (T2.live.length : Int)]) (ds)) := hide (RJ.left (L := [(B3, [.pointer (some ⟨T.t, 0, none⟩)]), (B5, [.bool false])]) (M := _) hq6)
                    clear hq0 hq4 hq6 hLL hLB hg3 hg11 hI4 hb4 hO6 hg6 hF6 hS0 HLN LL
                    go_wp2
                    rw [show ((i : Int) + 1) = ((i + 1 : Nat) : Int) from rfl]
                    exact (Handed.intro (l.length - (i + 1)) (by have := unhide HLT; omega) (hJ _ _ _ (LI8.mk (i + 1) T2 _ (ds) _ _ _ _ _ _ _ _ _ _ _ _ _ _ _ _ _ _ _ _ _ _ _ _ _ _ _ _ _ _ _ _ _ _ _ _ _ _ _ _ _ _ _ _ _ _ _ _ _ _ _ _ _ _ _ _ _ _ _ _ _ _ _ _ _ _ _ _ _ _ _ _ _ _ _ _ _ _ _ _ _ _ _ _ _ _ _ _ _ _ _ _ _ _ _ _ _ _ _ _ _ _ _ _ _ _ _ _ _ _ _ _ _ _ _ _ _ _ _ _ _ _ _ _ _ _ _ _ _ _ _ _ _ _ _ _ _ _ (by have := unhide HLT; omega) (Nat.le_refl _) (hide ⟨unhide LN, by have h1 := unhide HDR; rw [← unhide HF, ← unhide HV] at h1; have h2 := (unhide HI).2.1; rw [h1, abs_len] at h2; exact h2, by have h1 := act_last x (abs T1); rw [← unhide HF] at h1; have h2 : T2.last ≤ T1.last + 201 := h1; have h3 := (unhide HI).2.2.1; omega, (unhide HI).2.2.2.1, (unhide HI).2.2.2.2.1, by have := (unhide HI).2.2.2.2.2; simp; omega⟩))))
                  · have HV : Hid ((0 : Int) = (actA x (abs T1)).2) := hide (by rw [unhide HAC]; simp only [hlen]; rw [if_neg hin6])
                    have HOT : Hid (x.n < 0 ∨ (Tc.live.length : Int) ≤ x.n) := hide (by omega)
                    clear hin6 hlen
                    go_wp2_with (first | go_skip | ((with_reducible show wpList _ _ _ _ _ _); first | ((refine vl (by rfl) (ex_load1 29 Tryd.isAgg29 rfl rfl ((unhide LL).get 0 rfl) rfl) ?_); simp only [Act.put, n1, n2, n3]) | ((refine vl (by rfl) (ex_load1 4 Tryd.isAgg4 rfl rfl ((unhide LL).get 1 rfl) rfl) ?_); simp only [Act.put, n1, n2, n3]) | ((refine vl (by rfl) (ex_load1 3 Tryd.isAgg3 rfl rfl ((unhide LL).get 2 rfl) rfl) ?_); simp only [Act.put, n1, n2, n3]) | ((refine vl (by rfl) (ex_loadN (vs := x.k.cs) 34 2 row33x siz33 rfl rfl ((unhide LL).get 2 rfl) rfl rfl) ?_); simp only [Act.put, n1, n2, n3]) | ((refine vl (by rfl) (ex_loadN (vs := x.d.cs) 40 18 row39 siz39 rfl rfl ((unhide LL).get 2 rfl) rfl rfl) ?_); simp only [Act.put, n1, n2, n3]) | ((refine vl (by rfl) (ex_lenG 22 42 Tryd.underlying22 rfl rfl) ?_); simp only [Act.put, n1, n2, n3]) | ((refine vl (by rfl) (ex_indexG 22 23 i und22 idx22 rfl rfl rfl (unhide HLT)) ?_); simp only [Act.put, n1, n2, n3]) | ((refine vl (by rfl) (ex_loadR (vs := actCs x.kd x.k x.d x.n (.slice IA x.il.length ic)) 42 23 row41 siz41 rfl rfl (unhide HA2 _ (unhide LL).fr) rfl) ?_); simp only [Act.put, n1, n2, n3]) | ((refine alK (v := .agg (zeroAct).toArray) 42 (zeroAct) (by rfl) rfl (fun w => by kernel_rfl) rfl (Nat.succ_pos _) (unhide LL) ?_); intro X10 B10 hB10 L10; replace hB10 := hide hB10; replace LL := hide L10; clear L10; simp only [Act.put, n1, n2, n3]) | ((refine stK (vs := actCs x.kd x.k x.d x.n (.slice IA x.il.length ic)) 2 42 (by rfl) rfl rfl rfl rfl (act_one _ _ _ _ _ _ _) siz41 (unhide LL) rfl (by simp [cput, zeroAct, actCs, zeroK, zeroD, KK.cs, DD.cs, VV.cs]) (unhide hB10) ?_); intro X12 L12; replace LL := hide L12; clear L12; simp only [Act.put, n1, n2, n3]) | ((refine alK (v := .int .i64 0) 3 ([.int .i64 0]) (by rfl) rfl (fun w => by kernel_rfl) rfl (Nat.succ_pos _) (unhide LL) ?_); intro X11 B11 hB11 L11; replace hB11 := hide hB11; replace LL := hide L11; clear L11; simp only [Act.put, n1, n2, n3]) | ((refine stK (vs := [.int .i64 0]) 3 3 (by rfl) rfl rfl rfl rfl (by simp [Value.oneCell']) siz3 (unhide LL) rfl (by simp [cput, zeroAct, actCs, zeroK, zeroD, KK.cs, DD.cs, VV.cs]) (unhide hB11) ?_); intro X13 L13; replace LL := hide L13; clear L13; simp only [Act.put, n1, n2, n3])))
                    have HAT := hide (at_out Tc x.n _ (unhide LL).ri.is (unhide HOT))
                    rw [(unhide LL).ri.tq] at HAT
                    refine (unhide HAT).mono ?_
                    rintro _ Y ⟨rfl, hbn⟩
                    replace LL := hide ((unhide LL).on hbn)
                    clear hbn HAT
                    have HF : Hid (abs Tc = (actA x (abs T1)).1) := hide (by rw [unhide HAC]; exact unhide HTC)
                    go_wp2_with (first | go_skip | ((with_reducible show wpList _ _ _ _ _ _); first | ((refine alK (v := .agg ((zeroK.cs ++ zeroD.cs)).toArray) 54 ((zeroK.cs ++ zeroD.cs)) (by rfl) rfl (fun w => by kernel_rfl) rfl (Nat.succ_pos _) (unhide LL) ?_); intro X20 B20 hB20 L20; replace hB20 := hide hB20; replace LL := hide L20; clear L20; simp only [Act.put, n1, n2, n3]) | ((refine stK (vs := (zeroK.cs ++ zeroD.cs)) 4 54 (by rfl) rfl rfl rfl rfl (by simp [KK.cs, DD.cs, VV.cs, Value.oneCell']) siz58 (unhide LL) rfl (by simp [cput, zeroAct, actCs, zeroK, zeroD, KK.cs, DD.cs, VV.cs]) (unhide hB20) ?_); intro X21 L21; replace LL := hide L21; clear L21; simp only [Act.put, n1, n2, n3])))
                    obtain ⟨LB, hLB, hLL⟩ : ∃ LB, LB = _ ∧ RJ w _ T Tc LB tv xs ds := ⟨_, rfl, unhide LL⟩
                    have hg3 : LB[0]? = some (B3, [.pointer (some ⟨T.t, 0, none⟩)]) := by rw [hLB]; rfl
                    have hg11 : LB[3]? = some (B11, [.int .i64 (0)]) := by rw [hLB]; rfl
                    have hq0 := hLL.drew
                    refine wp_region_held_drew (P := Tryd.prog) (S := fun X => RI w X T Tc LB) (by kernel_rfl) hq0.ri (fun hS0 => ?_)
                    refine gsem 0 (some 138) (tv) rfl (by kernel_rfl) (by kernel_rfl) (by kernel_rfl) (fun _ _ _ h => h) (by kernel_rfl) (by kernel_rfl) (fun _ _ => by kernel_rfl) hq0.ri ?_
                    simp only [Act.put, n1, n2, n3]
                    refine gsem 1 (some 139) (.int .i64 (0)) rfl (by kernel_rfl) (by kernel_rfl) (by kernel_rfl) (fun _ _ _ h => h) (by kernel_rfl) (by kernel_rfl) (fun X hX => ex_load1 3 Tryd.isAgg3 rfl rfl (hX.hq.get 3 hg11) rfl) hq0.ri ?_
                    simp only [Act.put, n1, n2, n3]
                    refine gsem 2 (some 140) (.pointer (some ⟨T.t, 0, none⟩)) rfl (by kernel_rfl) (by kernel_rfl) (by kernel_rfl) (fun _ _ _ h => h) (by kernel_rfl) (by kernel_rfl) (fun X hX => ex_load1 29 Tryd.isAgg29 rfl rfl (hX.hq.get 0 hg3) rfl) hq0.ri ?_
                    simp only [Act.put, n1, n2, n3]
                    have HLN := hide (len30 Tc _ hq0.ri.is)
                    rw [hq0.ri.tq] at HLN
                    refine wpAnyH_ready (rs := [3]) (by kernel_rfl) (by simp) (gcallR 3 (some 141) rfl (by kernel_rfl) (by kernel_rfl) (by kernel_rfl) (unhide HLN) ?_ AllReadyH.nil)
                    rintro _ Y3 ⟨rfl, hY3⟩
                    subst hY3
                    refine ⟨_, rfl, hq0.ri, ?_⟩
                    simp only [Act.put, n1, n2, n3]
                    have hI4 := hq0.fresh ([.int .i64 (0), .int .i64 (Tc.live.length : Nat)]) 3
                    have hb4 := hq0.bl (Obj.cells ([.int .i64 (0), .int .i64 (Tc.live.length : Nat)]).toArray 3)
                    refine wpAnyH_ready (rs := [4]) (by kernel_rfl) (by simp) (gval 4 (some 142) rfl (by kernel_rfl) (by kernel_rfl) (ex_build26 (0) (Tc.live.length : Nat) rfl rfl rfl) (hq0.ri.on hb4) ?_ AllReadyH.nil)
                    simp only [Act.put, n1, n2, n3]
                    have hq4 := hq0.on hb4
                    refine wpAnyH_ready (rs := [5]) (by kernel_rfl) (by simp) (gappF (base := w.heap.size) (size := 1) (bytes := 8) (k := xs.length) (m := 2) (news := [.int .i64 (0), .int .i64 (Tc.live.length : Nat)]) (xs := xs.map (fun z => .int .i64 z)) (v := tv) 5 (some 143) rfl (by kernel_rfl) (by kernel_rfl) rfl rfl rfl Tryd.underlying26 inf3 rfl (by decide) hq4.own hI4 rfl (by simp [Value.oneCell']) (by have := unhide HXS; omega) (by decide) hq4.fr.size (fun X hg => hq4.ri_grown hg) ?_ AllReadyH.nil)
                    intro A6 c6 X6 hO6 hg6 hF6
                    simp only [Act.put, n1, n2, n3]
                    have hq6 := hq4.app (ys := [0, (Tc.live.length : Int)]) (tv2 := .slice A6 (xs.length + 2) c6) (by simpa using hO6) hg6 hF6
                    refine gsem 6 (some 8) (.slice A6 (xs.length + 2) c6) rfl (by kernel_rfl) (by kernel_rfl) (by kernel_rfl) (fun _ _ _ h => h) (by kernel_rfl) (by kernel_rfl) (fun _ _ => by kernel_rfl) hq6.ri ?_
                    simp only [Act.put, n1, n2, n3]
                    refine wpAnyH_done (by kernel_rfl) ?_ _
                    try simp only [Act.put, n1, n2, n3]
                    rw [hLB] at hq6
                    have LN : Hid (RJ w X6 T Tc [(B3, [.pointer (some ⟨T.t, 0, none⟩)]), (B5, [.bool false])] (.slice A6 (xs.length + 2) c6) (xs ++ [0, (Tc.live.length : Int)]) (ds)) := hide (RJ.left (L := [(B3, [.pointer (some ⟨T.t, 0, none⟩)]), (B5, [.bool false])]) (M := _) hq6)
                    clear hq0 hq4 hq6 hLL hLB hg3 hg11 hI4 hb4 hO6 hg6 hF6 hS0 HLN LL
                    go_wp2
                    rw [show ((i : Int) + 1) = ((i + 1 : Nat) : Int) from rfl]
                    exact (Handed.intro (l.length - (i + 1)) (by have := unhide HLT; omega) (hJ _ _ _ (LI8.mk (i + 1) Tc _ (ds) _ _ _ _ _ _ _ _ _ _ _ _ _ _ _ _ _ _ _ _ _ _ _ _ _ _ _ _ _ _ _ _ _ _ _ _ _ _ _ _ _ _ _ _ _ _ _ _ _ _ _ _ _ _ _ _ _ _ _ _ _ _ _ _ _ _ _ _ _ _ _ _ _ _ _ _ _ _ _ _ _ _ _ _ _ _ _ _ _ _ _ _ _ _ _ _ _ _ _ _ _ _ _ _ _ _ _ _ _ _ _ _ _ _ _ _ _ _ _ _ _ _ _ _ _ _ _ _ _ _ _ _ _ _ _ _ _ _ (by have := unhide HLT; omega) (Nat.le_refl _) (hide ⟨unhide LN, by have h1 := unhide HDR; rw [← unhide HF, ← unhide HV] at h1; have h2 := (unhide HI).2.1; rw [h1, abs_len] at h2; exact h2, by have h1 := act_last x (abs T1); rw [← unhide HF] at h1; have h2 : Tc.last ≤ T1.last + 201 := h1; have h3 := (unhide HI).2.2.1; omega, (unhide HI).2.2.2.1, (unhide HI).2.2.2.2.1, by have := (unhide HI).2.2.2.2.2; simp; omega⟩))))
                · by_cases h9 : x.kd = 9
                  · have he9 : (x.kd == 9) = true := by simp [h9]
                    have he1 : (x.kd == 1) = false := by simp [h1]
                    have he2 : (x.kd == 2) = false := by simp [h2]
                    have he3 : (x.kd == 3) = false := by simp [h3]
                    have he5 : (x.kd == 5) = false := by simp [h5]
                    have he6 : (x.kd == 6) = false := by simp [h6]
                    have HAC : Hid (actA x (abs T1) = ((walkA x.il 201 ⟨abs T1, 0, 0, 0⟩).s, (walkA x.il 201 ⟨abs T1, 0, 0, 0⟩).n)) := hide (by unfold actA; rw [if_neg h1, if_neg h2, if_neg h3, if_neg h5, if_neg h6, if_pos h9])
                    clear h1 h2 h3 h5 h6 h9
                    go_wp2_with (first | go_skip | ((with_reducible show wpList _ _ _ _ _ _); first | ((refine vl (by rfl) (ex_load1 29 Tryd.isAgg29 rfl rfl ((unhide LL).get 0 rfl) rfl) ?_); simp only [Act.put, n1, n2, n3]) | ((refine vl (by rfl) (ex_load1 4 Tryd.isAgg4 rfl rfl ((unhide LL).get 1 rfl) rfl) ?_); simp only [Act.put, n1, n2, n3]) | ((refine vl (by rfl) (ex_load1 3 Tryd.isAgg3 rfl rfl ((unhide LL).get 2 rfl) rfl) ?_); simp only [Act.put, n1, n2, n3]) | ((refine vl (by rfl) (ex_loadN (vs := x.k.cs) 34 2 row33x siz33 rfl rfl ((unhide LL).get 2 rfl) rfl rfl) ?_); simp only [Act.put, n1, n2, n3]) | ((refine vl (by rfl) (ex_loadN (vs := x.d.cs) 40 18 row39 siz39 rfl rfl ((unhide LL).get 2 rfl) rfl rfl) ?_); simp only [Act.put, n1, n2, n3]) | ((refine vl (by rfl) (ex_lenG 22 42 Tryd.underlying22 rfl rfl) ?_); simp only [Act.put, n1, n2, n3]) | ((refine vl (by rfl) (ex_indexG 22 23 i und22 idx22 rfl rfl rfl (unhide HLT)) ?_); simp only [Act.put, n1, n2, n3]) | ((refine vl (by rfl) (ex_loadR (vs := actCs x.kd x.k x.d x.n (.slice IA x.il.length ic)) 42 23 row41 siz41 rfl rfl (unhide HA2 _ (unhide LL).fr) rfl) ?_); simp only [Act.put, n1, n2, n3]) | ((refine alK (v := .agg (zeroAct).toArray) 42 (zeroAct) (by rfl) rfl (fun w => by kernel_rfl) rfl (Nat.succ_pos _) (unhide LL) ?_); intro X10 B10 hB10 L10; replace hB10 := hide hB10; replace LL := hide L10; clear L10; simp only [Act.put, n1, n2, n3]) | ((refine stK (vs := actCs x.kd x.k x.d x.n (.slice IA x.il.length ic)) 2 42 (by rfl) rfl rfl rfl rfl (act_one _ _ _ _ _ _ _) siz41 (unhide LL) rfl (by simp [cput, zeroAct, actCs, zeroK, zeroD, KK.cs, DD.cs, VV.cs]) (unhide hB10) ?_); intro X12 L12; replace LL := hide L12; clear L12; simp only [Act.put, n1, n2, n3]) | ((fail_if_success (have hq := hB11)); ((refine alK (v := .int .i64 0) 3 ([.int .i64 0]) (by rfl) rfl (fun w => by kernel_rfl) rfl (Nat.succ_pos _) (unhide LL) ?_); intro X11 B11 hB11 L11; replace hB11 := hide hB11; replace LL := hide L11; clear L11; simp only [Act.put, n1, n2, n3])) | ((refine stK (vs := [.int .i64 0]) 3 3 (by rfl) rfl rfl rfl rfl (by simp [Value.oneCell']) siz3 (unhide LL) rfl (by simp [cput, zeroAct, actCs, zeroK, zeroD, KK.cs, DD.cs, VV.cs]) (unhide hB11) ?_); intro X13 L13; replace LL := hide L13; clear L13; simp only [Act.put, n1, n2, n3]) | ((refine alK (v := .int .i64 0) 3 ([.int .i64 0]) (by rfl) rfl (fun w => by kernel_rfl) rfl (Nat.succ_pos _) (unhide LL) ?_); intro X16 B16 hB16 L16; replace hB16 := hide hB16; replace LL := hide L16; clear L16; simp only [Act.put, n1, n2, n3]) | ((refine stK (vs := [.int .i64 0]) 4 3 (by rfl) rfl rfl rfl rfl (by simp [Value.oneCell']) siz3 (unhide LL) rfl (by simp [cput, zeroAct, actCs, zeroK, zeroD, KK.cs, DD.cs, VV.cs]) (unhide hB16) ?_); intro X17 L17; replace LL := hide L17; clear L17; simp only [Act.put, n1, n2, n3])))
                    have L9 : Hid (RJ w _ T Tc [(B3, [.pointer (some ⟨T.t, 0, none⟩)]), (B5, [.bool false]), (B10, actCs x.kd x.k x.d x.n (.slice IA x.il.length ic)), (B11, [.int .i64 0]), (B16, [.int .i64 0])] tv xs ds) := LL
                    clear LL
                    refine (eachJ (unhide L9)).mono ?_
                    rintro _ Y ⟨Bn, hBn, rfl, hL⟩
                    have LL : Hid (RJ w Y T Tc ((fun n a => [(B3, [.pointer (some ⟨T.t, 0, none⟩)]), (B5, [.bool false]), (B10, actCs x.kd x.k x.d x.n (.slice IA x.il.length ic)), (B11, [.int .i64 n]), (B16, [.int .i64 a]), (Bn, [.pointer (some ⟨T.t, 0, none⟩)])]) 0 0) tv xs ds) := hide hL
                    clear hL L9
                    go_wp2_with (first | go_skip | ((with_reducible show wpList _ _ _ _ _ _); first | ((refine vl (by rfl) (ex_eqFn rfl rfl) ?_); simp only [Act.put, n1, n2, n3])))
                    obtain ⟨FIN, hFIN⟩ : ∃ FIN, FIN = (walkA x.il 201 ⟨abs T1, 0, 0, 0⟩) := ⟨_, rfl⟩
                    rw [← hFIN] at HAC
                    have HFI := hide hFIN
                    clear hFIN
                    refine (wpIn_wide (n := 4)).1 ?_
                    refine range_one (σ := WS) rfl (by omega) (gf := 32) (lb := #[.pointer (some ⟨Bn, 0, none⟩)]) rfl trivial (enters_of Tryd.func32 (by kernel_rfl) rfl) (each_by 3 (by omega) T.t Bn ⟨Tc, 0, none, 201⟩ rfl _) (Below.refl _ _) ?hps (W9 w T x.il (fun n a => [(B3, [.pointer (some ⟨T.t, 0, none⟩)]), (B5, [.bool false]), (B10, actCs x.kd x.k x.d x.n (.slice IA x.il.length ic)), (B11, [.int .i64 n]), (B16, [.int .i64 a]), (Bn, [.pointer (some ⟨T.t, 0, none⟩)])]) tv xs ds FIN) (fun c W => c = .exit 3 ∧ X9 w T (fun n a => [(B3, [.pointer (some ⟨T.t, 0, none⟩)]), (B5, [.bool false]), (B10, actCs x.kd x.k x.d x.n (.slice IA x.il.length ic)), (B11, [.int .i64 n]), (B16, [.int .i64 a]), (Bn, [.pointer (some ⟨T.t, 0, none⟩)])]) tv xs ds FIN W) (fun s W h => W9.tab (i := 5) (fun _ _ => rfl) h) (W9.ownL (unhide LL).fr.size) (fun c s A B row hs hg hr => ⟨hs.1, X9.ownL (unhide LL).fr.size () A B row hs.2 hg hr⟩) ?h0 18 (fun r => r.k.cs) (fun _ => Nat.succ_pos _) ?assign ?body ?done ?stop
                    case h0 => exact ⟨⟨abs T1, 0, 0, 0⟩, unhide LL, unhide HTC, rfl, rfl, Nat.zero_le _, (unhide HFI).symm, by have := unhide HLT1; show Tc.last + 201 < 99300; omega, Nat.zero_le _, fun b hb => by cases hb⟩
                    case hps => intro q; rfl
                    case assign =>
                      intro l9 s9 r9 W9x K9 hI9 hV9 hK9
                      simp only [encR, zip2, n1, n2, n3] at hK9 ⊢
                      obtain ⟨p1, p2, p3⟩ := new_var W9x zeroK.cs r9.k.cs 34 (Nat.le_refl _) rfl (Nat.succ_pos _)
                      have HK9 := hide hK9
                      have HI9 := hide hI9
                      clear hK9 hI9
                      refine wpIn_region_lit ?_
                      refine inV (fun _ => trivial) (by rfl) (by intro c h; cases h) (ex_alloc33 rfl) ?_
                      simp only [Act.put, n1, n2, n3]
                      refine inS (fun _ => trivial) (by rfl) (by intro c h; cases h) (ex_store (t := 34) (vs := r9.k.cs) rfl rfl rfl rfl (by simp [KK.cs, Value.oneCell']) siz33 (Holds.new W9x zeroK.cs 34) (Nat.le_refl _)) ?_
                      simp only [Act.put, n1, n2, n3]
                      refine wpListIn_nil ?_
                      exact (unhide HK9) _ _ (kl_fr (Fr.of_below p1 []) (by simp)) ((unhide HI9).on p1) p2
                    case body =>
                      intro l9 s9 r9 B9 W9x hl9 hI9 hV9 hH9
                      simp only [encR, zip2, n1, n2, n3]
                      obtain ⟨wa, hJ9, g2, g3, g4, g5, g6, g7, g8, -⟩ := hI9
                      have HFN := hide (step_fin g2 g3 g4 g5 g6 hV9)
                      obtain ⟨hrm, -, hrg⟩ := next_mem hV9
                      have LK : Hid (RK w W9x W9x T s9.T ((fun n a => [(B3, [.pointer (some ⟨T.t, 0, none⟩)]), (B5, [.bool false]), (B10, actCs x.kd x.k x.d x.n (.slice IA x.il.length ic)), (B11, [.int .i64 n]), (B16, [.int .i64 a]), (Bn, [.pointer (some ⟨T.t, 0, none⟩)])]) wa.n wa.at) tv xs ds) := hide ⟨hJ9, KL.refl _⟩
                      have HRL : Hid (r9 ∈ s9.T.live) := hide (List.mem_filter.2 ⟨hrm, by simp [hrg]⟩)
                      have HRN : Hid (r9.n ≤ s9.T.last) := hide (hJ9.ri.is.num r9 hrm).2
                      have HNE : Hid (r9.b ≠ B16) := hide (fun e => hJ9.ri.sep (B16, [.int .i64 (wa.at : Int)]) (by simp) (e ▸ (by simp only [TT.blocks, List.mem_cons, List.mem_append, List.mem_map]; exact .inr (.inr (.inr ⟨r9, hrm, rfl⟩)))))
                      have HH9 := hide hH9
                      have HG := hide (And.intro g2 (And.intro g4 (And.intro g5 g7)))
                      clear hV9 hH9 hJ9 hrm hrg g2 g3 g6 g7 g8
                      have hwat : IntKind.i64.wrap ((wa.at : Int) + 1) = (wa.at : Int) + 1 := by rw [IntKind.wrap_i64]; omega
                      have HAK := hide (unhide HG).1
                      have HRK : Hid (r9 ∈ s9.T.rows) := hide (List.mem_filter.1 (unhide HRL)).1
                      have HLK : Hid (s9.T.last = s9.T.last) := hide rfl
                      by_cases hin : wa.at < x.il.length
                      · obtain ⟨y, hy⟩ : ∃ y, x.il[wa.at]? = some y := ⟨_, List.getElem?_eq_getElem hin⟩
                        obtain ⟨hoky, ib, ioff, hIA, hib, hibE, hyr⟩ := (unhide HIN) wa.at y hy
                        subst hIA
                        have HYR : Hid (∀ X, Fr w X T.blocks → X.rangeAt ib (ioff + wa.at * 23) y.cs) := hide (fun X hX => rangeAt_frE hyr hib hibE hX)
                        have HOKY := hide hoky
                        have HINL := hide hin
                        have dat : decide ((wa.at : Int) < (x.il.length : Int)) = true := decide_eq_true (by omega)
                        have HY := hide hy
                        clear hoky hib hibE hyr hin hy
                        by_cases q1 : y.kd = 1
                        · have e1 : (y.kd == 1) = true := by simp [q1]
                          gi_wp2_with (first | go_skip | ((with_reducible show wpListIn _ _ _ _ _ _ _ _); first | ((refine inV (fun _ => trivial) (by rfl) (by intro c h; cases h) (ex_mulW rfl rfl rfl) ?_); simp only [Act.put, n1, n2, n3]) | ((refine inV (fun _ => trivial) (by rfl) (by intro c h; cases h) (ex_addWw rfl rfl rfl hwat) ?_); simp only [Act.put, n1, n2, n3]) | ((refine inV (fun _ => trivial) (by rfl) (by intro c h; cases h) (ex_addW rfl rfl rfl) ?_); simp only [Act.put, n1, n2, n3]) | ((refine inV (fun _ => trivial) (by rfl) (by intro c h; cases h) (ex_lenS9 rfl rfl) ?_); simp only [Act.put, n1, n2, n3]) | ((refine inV (fun _ => trivial) (by rfl) (by intro c h; cases h) (ex_load1 3 Tryd.isAgg3 rfl rfl ((unhide LK).get 3 rfl) rfl) ?_); simp only [Act.put, n1, n2, n3]) | ((refine inV (fun _ => trivial) (by rfl) (by intro c h; cases h) (ex_load1 29 Tryd.isAgg29 rfl rfl ((unhide LK).get 0 rfl) rfl) ?_); simp only [Act.put, n1, n2, n3]) | ((refine inV (fun _ => trivial) (by rfl) (by intro c h; cases h) (ex_load1 4 Tryd.isAgg4 rfl rfl ((unhide LK).get 1 rfl) rfl) ?_); simp only [Act.put, n1, n2, n3]) | ((refine inV (fun _ => trivial) (by rfl) (by intro c h; cases h) (ex_load1 22 Tryd.isAgg22 rfl rfl ((unhide LK).get 2 rfl) rfl) ?_); simp only [Act.put, n1, n2, n3]) | ((refine inV (fun _ => trivial) (by rfl) (by intro c h; cases h) (ex_load1 3 Tryd.isAgg3 rfl rfl ((unhide LK).get 4 rfl) rfl) ?_); simp only [Act.put, n1, n2, n3]) | ((refine inV (fun _ => trivial) (by rfl) (by intro c h; cases h) (ex_load1 9 Tryd.isAgg9 rfl rfl (unhide HH9) rfl) ?_); simp only [Act.put, n1, n2, n3]) | ((refine inV (fun _ => trivial) (by rfl) (by intro c h; cases h) (ex_load1 3 Tryd.isAgg3 rfl rfl (unhide HH9) rfl) ?_); simp only [Act.put, n1, n2, n3]) | ((refine stR (vs := [.int .i64 (hashI wa.n r9.k)]) 3 3 (fun _ => trivial) (by rfl) (by intro c h; cases h) rfl rfl rfl rfl (by simp [Value.oneCell']) siz3 (unhide LK) rfl (Nat.le_refl _) (unhide hB11) ?_); intro Z1 hZ1 hfz1; replace LK := hide hZ1; clear hZ1 hfz1; simp only [Act.put, n1, n2, n3]) | ((refine inV (fun _ => trivial) (by rfl) (by intro c h; cases h) (ex_lenG 22 42 Tryd.underlying22 rfl rfl) ?_); simp only [Act.put, n1, n2, n3]) | ((refine inV (fun _ => trivial) (by rfl) (by intro c h; cases h) (ex_indexG 22 23 wa.at und22 idx22 rfl rfl rfl (unhide HINL)) ?_); simp only [Act.put, n1, n2, n3]) | ((refine inV (fun _ => trivial) (by rfl) (by intro c h; cases h) (ex_loadC 3 Tryd.isAgg3 rfl rfl ((unhide HYR _ (unhide LK).rj.fr) 0 _ rfl)) ?_); simp only [Act.put, n1, n2, n3]) | ((refine inV (fun _ => trivial) (by rfl) (by intro c h; cases h) (ex_loadR (vs := y.k.cs) 34 2 row33x siz33 rfl rfl (act_rangeK (unhide HYR _ (unhide LK).rj.fr)) rfl) ?_); simp only [Act.put, n1, n2, n3])))
                          refine region_round (S := fun X => ∃ T9, RK w W9x X T T9 ((fun n a => [(B3, [.pointer (some ⟨T.t, 0, none⟩)]), (B5, [.bool false]), (B10, actCs x.kd x.k x.d x.n (.slice (some ⟨ib, ioff, none⟩) x.il.length ic)), (B11, [.int .i64 n]), (B16, [.int .i64 a]), (Bn, [.pointer (some ⟨T.t, 0, none⟩)])]) (hashI wa.n r9.k) wa.at) tv xs ds) (by kernel_rfl) (by kernel_rfl) (by rintro ⟨a, w, h⟩; exact h) ?_
                          have hk0 := (unhide LK).on ((Below.refl _ _).drew)
                          have hs0 : ∃ T9, RK w W9x _ T T9 ((fun n a => [(B3, [.pointer (some ⟨T.t, 0, none⟩)]), (B5, [.bool false]), (B10, actCs x.kd x.k x.d x.n (.slice (some ⟨ib, ioff, none⟩) x.il.length ic)), (B11, [.int .i64 n]), (B16, [.int .i64 a]), (Bn, [.pointer (some ⟨T.t, 0, none⟩)])]) (hashI wa.n r9.k) wa.at) tv xs ds := ⟨_, hk0⟩
                          refine gsem 0 (some 110) (.pointer (some ⟨T.t, 0, none⟩)) rfl (by kernel_rfl) (by kernel_rfl) (by kernel_rfl) (fun _ _ _ h => h) (by kernel_rfl) (by kernel_rfl) (fun X hX => by obtain ⟨T9, hR9⟩ := hX; exact ex_load1 29 Tryd.isAgg29 rfl rfl (hR9.get 0 rfl) rfl) hs0 ?_
                          simp only [Act.put, n1, n2, n3]
                          refine gsem 1 (some 111) (.pointer (some ⟨B10, 22, none⟩)) rfl (by kernel_rfl) (by kernel_rfl) (by kernel_rfl) (fun _ _ _ h => h) (by kernel_rfl) (by kernel_rfl) (fun _ _ => by kernel_rfl) hs0 ?_
                          simp only [Act.put, n1, n2, n3]
                          refine gsem 2 (some 112) (.slice (some ⟨ib, ioff, none⟩) x.il.length ic) rfl (by kernel_rfl) (by kernel_rfl) (by kernel_rfl) (fun _ _ _ h => h) (by kernel_rfl) (by kernel_rfl) (fun X hX => by obtain ⟨T9, hR9⟩ := hX; exact ex_load1 22 Tryd.isAgg22 rfl rfl (hR9.get 2 rfl) rfl) hs0 ?_
                          simp only [Act.put, n1, n2, n3]
                          refine gsem 3 (some 113) (.int .i64 (wa.at : Nat)) rfl (by kernel_rfl) (by kernel_rfl) (by kernel_rfl) (fun _ _ _ h => h) (by kernel_rfl) (by kernel_rfl) (fun X hX => by obtain ⟨T9, hR9⟩ := hX; exact ex_load1 3 Tryd.isAgg3 rfl rfl (hR9.get 4 rfl) rfl) hs0 ?_
                          simp only [Act.put, n1, n2, n3]
                          refine gsem 4 (some 114) (.pointer (some ⟨ib, ioff + wa.at * 23, none⟩)) rfl (by kernel_rfl) (by kernel_rfl) (by kernel_rfl) (fun _ _ _ h => h) (by kernel_rfl) (by kernel_rfl) (fun X hX => ex_indexG 22 23 wa.at und22 idx22 rfl rfl rfl (unhide HINL)) hs0 ?_
                          simp only [Act.put, n1, n2, n3]
                          refine gsem 5 (some 115) (.pointer (some ⟨ib, ioff + wa.at * 23 + 1, none⟩)) rfl (by kernel_rfl) (by kernel_rfl) (by kernel_rfl) (fun _ _ _ h => h) (by kernel_rfl) (by kernel_rfl) (fun _ _ => by kernel_rfl) hs0 ?_
                          simp only [Act.put, n1, n2, n3]
                          refine gsem 6 (some 116) (.agg y.k.cs.toArray) rfl (by kernel_rfl) (by kernel_rfl) (by kernel_rfl) (fun _ _ _ h => h) (by kernel_rfl) (by kernel_rfl) (fun X hX => by obtain ⟨T9, hR9⟩ := hX; exact ex_loadR (vs := y.k.cs) 34 2 row33x siz33 rfl rfl (act_rangeK (unhide HYR _ hR9.rj.fr)) rfl) hs0 ?_
                          simp only [Act.put, n1, n2, n3]
                          refine gsem 7 (some 117) (.pointer (some ⟨B10, 22, none⟩)) rfl (by kernel_rfl) (by kernel_rfl) (by kernel_rfl) (fun _ _ _ h => h) (by kernel_rfl) (by kernel_rfl) (fun _ _ => by kernel_rfl) hs0 ?_
                          simp only [Act.put, n1, n2, n3]
                          refine gsem 8 (some 118) (.slice (some ⟨ib, ioff, none⟩) x.il.length ic) rfl (by kernel_rfl) (by kernel_rfl) (by kernel_rfl) (fun _ _ _ h => h) (by kernel_rfl) (by kernel_rfl) (fun X hX => by obtain ⟨T9, hR9⟩ := hX; exact ex_load1 22 Tryd.isAgg22 rfl rfl (hR9.get 2 rfl) rfl) hs0 ?_
                          simp only [Act.put, n1, n2, n3]
                          refine gsem 9 (some 119) (.int .i64 (wa.at : Nat)) rfl (by kernel_rfl) (by kernel_rfl) (by kernel_rfl) (fun _ _ _ h => h) (by kernel_rfl) (by kernel_rfl) (fun X hX => by obtain ⟨T9, hR9⟩ := hX; exact ex_load1 3 Tryd.isAgg3 rfl rfl (hR9.get 4 rfl) rfl) hs0 ?_
                          simp only [Act.put, n1, n2, n3]
                          refine gsem 10 (some 120) (.pointer (some ⟨ib, ioff + wa.at * 23, none⟩)) rfl (by kernel_rfl) (by kernel_rfl) (by kernel_rfl) (fun _ _ _ h => h) (by kernel_rfl) (by kernel_rfl) (fun X hX => ex_indexG 22 23 wa.at und22 idx22 rfl rfl rfl (unhide HINL)) hs0 ?_
                          simp only [Act.put, n1, n2, n3]
                          refine gsem 11 (some 121) (.pointer (some ⟨ib, ioff + wa.at * 23 + 3, none⟩)) rfl (by kernel_rfl) (by kernel_rfl) (by kernel_rfl) (fun _ _ _ h => h) (by kernel_rfl) (by kernel_rfl) (fun _ _ => by kernel_rfl) hs0 ?_
                          simp only [Act.put, n1, n2, n3]
                          refine gsem 12 (some 122) (.agg y.d.cs.toArray) rfl (by kernel_rfl) (by kernel_rfl) (by kernel_rfl) (fun _ _ _ h => h) (by kernel_rfl) (by kernel_rfl) (fun X hX => by obtain ⟨T9, hR9⟩ := hX; exact ex_loadR (vs := y.d.cs) 40 18 row39 siz39 rfl rfl (act_rangeD (unhide HYR _ hR9.rj.fr)) rfl) hs0 ?_
                          simp only [Act.put, n1, n2, n3]
                          have HPT := hide (put12e s9.T y.k y.d _ hk0.rj.ri.is (tabs_fr (unhide HU) hk0.rj.fr (unhide H6)) (unhide HOKY) (by have h1 := unhide HLK; have h2 := (unhide HG).2.2.2; omega) (fun b hb => by rcases hk0.rj.ri.new b hb with h | h; exact unhide H6 b h; have := tabs_size (unhide HU); omega))
                          rw [hk0.rj.ri.tq] at HPT
                          refine wpAnyH_ready (rs := [13]) (by kernel_rfl) (by simp) (gcallR 13 (some 123) rfl (by kernel_rfl) (by kernel_rfl) (by kernel_rfl) (unhide HPT) ?_ AllReadyH.nil)
                          rintro _ Y9 ⟨rfl, T2, hT2, ht2, hf2, hb2, hp2⟩
                          have hk2 := hk0.step hT2 (ht2.trans hk0.rj.ri.tq.symm) hf2 hb2
                          refine ⟨_, rfl, ⟨_, hk2⟩, ?_⟩
                          simp only [Act.put, n1, n2, n3]
                          refine wpAnyH_done (by kernel_rfl) ?_ _
                          try simp only [Act.put, n1, n2, n3]
                          have HAI : Hid (abs T2 = innerA x.il wa.at wa.s) := hide (by unfold innerA; rw [unhide HY]; dsimp only; rw [if_pos q1, abs_put hk0.rj.ri.is hp2, unhide HAK])
                          have HNU0 := hide (put_num hp2 hT2 (unhide HRK))
                          have HL2 : Hid (T2.last ≤ s9.T.last + 1) := hide (by have h1 := hp2.last; have := unhide HLK; omega)
                          have HL3 : Hid (s9.T.last ≤ T2.last) := hide (by have h1 := hp2.grows; have := unhide HLK; omega)
                          replace LK := hide hk2
                          clear hT2 ht2 hf2 hb2 hp2 hk2 hk0 hs0 HPT q1
                          by_cases h200 : 200 < wa.at + 1
                          · have hgt : (200 : Int) < (wa.at : Int) + 1 := by omega
                            have hE : FIN = stepA x.il wa (enOf r9) := by have := unhide HFN; rw [if_pos h200] at this; exact this.symm
                            subst hE
                            gi_wp2_with (first | go_skip | ((with_reducible show wpListIn _ _ _ _ _ _ _ _); first | ((refine inV (fun _ => trivial) (by rfl) (by intro c h; cases h) (ex_addWw rfl rfl rfl hwat) ?_); simp only [Act.put, n1, n2, n3]) | ((refine inV (fun _ => trivial) (by rfl) (by intro c h; cases h) (ex_load1 3 Tryd.isAgg3 rfl rfl ((unhide LK).get 4 rfl) rfl) ?_); simp only [Act.put, n1, n2, n3]) | ((refine stR (vs := [.int .i64 ((wa.at : Int) + 1)]) 4 3 (fun _ => trivial) (by rfl) (by intro c h; cases h) rfl rfl rfl rfl (by simp [Value.oneCell']) siz3 (unhide LK) rfl (Nat.le_refl _) (unhide hB16) ?_); intro Z2 hZ2 hfz2; have HNU := HNU0; replace LK := hide hZ2; have HNU2 := hide ((World.cell?_of_block (a := ⟨r9.b, 20, none⟩) (hfz2.block r9.b (cell_lt (unhide HNU)) (by simpa using unhide HNE))).trans (unhide HNU)); clear hZ2 hfz2; simp only [Act.put, n1, n2, n3])))
                            exact ⟨(unhide LK).kl, rfl, T2, (unhide LK).rj, unhide HAI⟩
                          · have hgt : ¬ (200 : Int) < (wa.at : Int) + 1 := by omega
                            have HE : Hid (walkA x.il (s9.left - 1) (stepA x.il wa (enOf r9)) = FIN) := hide (by have := unhide HFN; rw [if_neg h200] at this; exact this)
                            gi_wp2_with (first | go_skip | ((with_reducible show wpListIn _ _ _ _ _ _ _ _); first | ((refine inV (fun _ => trivial) (by rfl) (by intro c h; cases h) (ex_addWw rfl rfl rfl hwat) ?_); simp only [Act.put, n1, n2, n3]) | ((refine inV (fun _ => trivial) (by rfl) (by intro c h; cases h) (ex_load1 3 Tryd.isAgg3 rfl rfl ((unhide LK).get 4 rfl) rfl) ?_); simp only [Act.put, n1, n2, n3]) | ((refine stR (vs := [.int .i64 ((wa.at : Int) + 1)]) 4 3 (fun _ => trivial) (by rfl) (by intro c h; cases h) rfl rfl rfl rfl (by simp [Value.oneCell']) siz3 (unhide LK) rfl (Nat.le_refl _) (unhide hB16) ?_); intro Z2 hZ2 hfz2; have HNU := HNU0; replace LK := hide hZ2; have HNU2 := hide ((World.cell?_of_block (a := ⟨r9.b, 20, none⟩) (hfz2.block r9.b (cell_lt (unhide HNU)) (by simpa using unhide HNE))).trans (unhide HNU)); clear hZ2 hfz2; simp only [Act.put, n1, n2, n3])))
                            exact ⟨(unhide LK).kl, ⟨T2, r9.n, some r9.b, s9.left - 1⟩, ⟨rfl, rfl, by have := (unhide HG).2.1; show s9.left - 1 < s9.left; omega⟩, stepA x.il wa (enOf r9), (unhide LK).rj, unhide HAI, rfl, by have := (unhide HG).2.1; show s9.left - 1 + (wa.at + 1) = 201; omega, by show wa.at + 1 ≤ 200; omega, unhide HE, by have h1 := unhide HL2; have h2 := (unhide HG).2.2.2; have h3 := (unhide HG).2.1; show T2.last + (s9.left - 1) < 99300; omega, Nat.le_trans (unhide HRN) (unhide HL3), fun b hb => by cases hb; exact unhide HNU2⟩
                        · by_cases q2 : y.kd = 2
                          · have e1 : (y.kd == 1) = false := by simp [q1]
                            have e2 : (y.kd == 2) = true := by simp [q2]
                            gi_wp2_with (first | go_skip | ((with_reducible show wpListIn _ _ _ _ _ _ _ _); first | ((refine inV (fun _ => trivial) (by rfl) (by intro c h; cases h) (ex_mulW rfl rfl rfl) ?_); simp only [Act.put, n1, n2, n3]) | ((refine inV (fun _ => trivial) (by rfl) (by intro c h; cases h) (ex_addWw rfl rfl rfl hwat) ?_); simp only [Act.put, n1, n2, n3]) | ((refine inV (fun _ => trivial) (by rfl) (by intro c h; cases h) (ex_addW rfl rfl rfl) ?_); simp only [Act.put, n1, n2, n3]) | ((refine inV (fun _ => trivial) (by rfl) (by intro c h; cases h) (ex_lenS9 rfl rfl) ?_); simp only [Act.put, n1, n2, n3]) | ((refine inV (fun _ => trivial) (by rfl) (by intro c h; cases h) (ex_load1 3 Tryd.isAgg3 rfl rfl ((unhide LK).get 3 rfl) rfl) ?_); simp only [Act.put, n1, n2, n3]) | ((refine inV (fun _ => trivial) (by rfl) (by intro c h; cases h) (ex_load1 29 Tryd.isAgg29 rfl rfl ((unhide LK).get 0 rfl) rfl) ?_); simp only [Act.put, n1, n2, n3]) | ((refine inV (fun _ => trivial) (by rfl) (by intro c h; cases h) (ex_load1 4 Tryd.isAgg4 rfl rfl ((unhide LK).get 1 rfl) rfl) ?_); simp only [Act.put, n1, n2, n3]) | ((refine inV (fun _ => trivial) (by rfl) (by intro c h; cases h) (ex_load1 22 Tryd.isAgg22 rfl rfl ((unhide LK).get 2 rfl) rfl) ?_); simp only [Act.put, n1, n2, n3]) | ((refine inV (fun _ => trivial) (by rfl) (by intro c h; cases h) (ex_load1 3 Tryd.isAgg3 rfl rfl ((unhide LK).get 4 rfl) rfl) ?_); simp only [Act.put, n1, n2, n3]) | ((refine inV (fun _ => trivial) (by rfl) (by intro c h; cases h) (ex_load1 9 Tryd.isAgg9 rfl rfl (unhide HH9) rfl) ?_); simp only [Act.put, n1, n2, n3]) | ((refine inV (fun _ => trivial) (by rfl) (by intro c h; cases h) (ex_load1 3 Tryd.isAgg3 rfl rfl (unhide HH9) rfl) ?_); simp only [Act.put, n1, n2, n3]) | ((refine stR (vs := [.int .i64 (hashI wa.n r9.k)]) 3 3 (fun _ => trivial) (by rfl) (by intro c h; cases h) rfl rfl rfl rfl (by simp [Value.oneCell']) siz3 (unhide LK) rfl (Nat.le_refl _) (unhide hB11) ?_); intro Z1 hZ1 hfz1; replace LK := hide hZ1; clear hZ1 hfz1; simp only [Act.put, n1, n2, n3]) | ((refine inV (fun _ => trivial) (by rfl) (by intro c h; cases h) (ex_lenG 22 42 Tryd.underlying22 rfl rfl) ?_); simp only [Act.put, n1, n2, n3]) | ((refine inV (fun _ => trivial) (by rfl) (by intro c h; cases h) (ex_indexG 22 23 wa.at und22 idx22 rfl rfl rfl (unhide HINL)) ?_); simp only [Act.put, n1, n2, n3]) | ((refine inV (fun _ => trivial) (by rfl) (by intro c h; cases h) (ex_loadC 3 Tryd.isAgg3 rfl rfl ((unhide HYR _ (unhide LK).rj.fr) 0 _ rfl)) ?_); simp only [Act.put, n1, n2, n3]) | ((refine inV (fun _ => trivial) (by rfl) (by intro c h; cases h) (ex_loadR (vs := y.k.cs) 34 2 row33x siz33 rfl rfl (act_rangeK (unhide HYR _ (unhide LK).rj.fr)) rfl) ?_); simp only [Act.put, n1, n2, n3])))
                            refine region_round (S := fun X => ∃ T9, RK w W9x X T T9 ((fun n a => [(B3, [.pointer (some ⟨T.t, 0, none⟩)]), (B5, [.bool false]), (B10, actCs x.kd x.k x.d x.n (.slice (some ⟨ib, ioff, none⟩) x.il.length ic)), (B11, [.int .i64 n]), (B16, [.int .i64 a]), (Bn, [.pointer (some ⟨T.t, 0, none⟩)])]) (hashI wa.n r9.k) wa.at) tv xs ds) (by kernel_rfl) (by kernel_rfl) (by rintro ⟨a, w, h⟩; exact h) ?_
                            have hk0 := (unhide LK).on ((Below.refl _ _).drew)
                            have hs0 : ∃ T9, RK w W9x _ T T9 ((fun n a => [(B3, [.pointer (some ⟨T.t, 0, none⟩)]), (B5, [.bool false]), (B10, actCs x.kd x.k x.d x.n (.slice (some ⟨ib, ioff, none⟩) x.il.length ic)), (B11, [.int .i64 n]), (B16, [.int .i64 a]), (Bn, [.pointer (some ⟨T.t, 0, none⟩)])]) (hashI wa.n r9.k) wa.at) tv xs ds := ⟨_, hk0⟩
                            refine gsem 0 (some 126) (.pointer (some ⟨T.t, 0, none⟩)) rfl (by kernel_rfl) (by kernel_rfl) (by kernel_rfl) (fun _ _ _ h => h) (by kernel_rfl) (by kernel_rfl) (fun X hX => by obtain ⟨T9, hR9⟩ := hX; exact ex_load1 29 Tryd.isAgg29 rfl rfl (hR9.get 0 rfl) rfl) hs0 ?_
                            simp only [Act.put, n1, n2, n3]
                            refine gsem 1 (some 127) (.pointer (some ⟨B10, 22, none⟩)) rfl (by kernel_rfl) (by kernel_rfl) (by kernel_rfl) (fun _ _ _ h => h) (by kernel_rfl) (by kernel_rfl) (fun _ _ => by kernel_rfl) hs0 ?_
                            simp only [Act.put, n1, n2, n3]
                            refine gsem 2 (some 128) (.slice (some ⟨ib, ioff, none⟩) x.il.length ic) rfl (by kernel_rfl) (by kernel_rfl) (by kernel_rfl) (fun _ _ _ h => h) (by kernel_rfl) (by kernel_rfl) (fun X hX => by obtain ⟨T9, hR9⟩ := hX; exact ex_load1 22 Tryd.isAgg22 rfl rfl (hR9.get 2 rfl) rfl) hs0 ?_
                            simp only [Act.put, n1, n2, n3]
                            refine gsem 3 (some 129) (.int .i64 (wa.at : Nat)) rfl (by kernel_rfl) (by kernel_rfl) (by kernel_rfl) (fun _ _ _ h => h) (by kernel_rfl) (by kernel_rfl) (fun X hX => by obtain ⟨T9, hR9⟩ := hX; exact ex_load1 3 Tryd.isAgg3 rfl rfl (hR9.get 4 rfl) rfl) hs0 ?_
                            simp only [Act.put, n1, n2, n3]
                            refine gsem 4 (some 130) (.pointer (some ⟨ib, ioff + wa.at * 23, none⟩)) rfl (by kernel_rfl) (by kernel_rfl) (by kernel_rfl) (fun _ _ _ h => h) (by kernel_rfl) (by kernel_rfl) (fun X hX => ex_indexG 22 23 wa.at und22 idx22 rfl rfl rfl (unhide HINL)) hs0 ?_
                            simp only [Act.put, n1, n2, n3]
                            refine gsem 5 (some 131) (.pointer (some ⟨ib, ioff + wa.at * 23 + 1, none⟩)) rfl (by kernel_rfl) (by kernel_rfl) (by kernel_rfl) (fun _ _ _ h => h) (by kernel_rfl) (by kernel_rfl) (fun _ _ => by kernel_rfl) hs0 ?_
                            simp only [Act.put, n1, n2, n3]
                            refine gsem 6 (some 132) (.agg y.k.cs.toArray) rfl (by kernel_rfl) (by kernel_rfl) (by kernel_rfl) (fun _ _ _ h => h) (by kernel_rfl) (by kernel_rfl) (fun X hX => by obtain ⟨T9, hR9⟩ := hX; exact ex_loadR (vs := y.k.cs) 34 2 row33x siz33 rfl rfl (act_rangeK (unhide HYR _ hR9.rj.fr)) rfl) hs0 ?_
                            simp only [Act.put, n1, n2, n3]
                            have HDL := hide (deleteN s9.T y.k _ hk0.rj.ri.is (unhide HOKY) (by have h1 := unhide HLK; have h2 := (unhide HG).2.2.2; omega))
                            rw [hk0.rj.ri.tq] at HDL
                            refine wpAnyH_ready (rs := [7]) (by kernel_rfl) (by simp) (gcallR 7 (some 133) rfl (by kernel_rfl) (by kernel_rfl) (by kernel_rfl) (unhide HDL) ?_ AllReadyH.nil)
                            rintro _ Y9 ⟨rfl, T2, hT2, ht2, hn2, hf2, hb2, hl2, hnum⟩
                            have hk2 := hk0.step hT2 (ht2.trans hk0.rj.ri.tq.symm) hf2 hb2
                            refine ⟨_, rfl, ⟨_, hk2⟩, ?_⟩
                            simp only [Act.put, n1, n2, n3]
                            refine wpAnyH_done (by kernel_rfl) ?_ _
                            try simp only [Act.put, n1, n2, n3]
                            have HAI : Hid (abs T2 = innerA x.il wa.at wa.s) := hide (by unfold innerA; rw [unhide HY]; dsimp only; rw [if_neg q1, if_pos q2, abs_del hl2 hn2, unhide HAK])
                            have HNU0 := hide (hnum r9 (unhide HRK))
                            have HL2 : Hid (T2.last ≤ s9.T.last + 1) := hide (by have := unhide HLK; omega)
                            have HL3 : Hid (s9.T.last ≤ T2.last) := hide (by have := unhide HLK; omega)
                            replace LK := hide hk2
                            clear hT2 ht2 hn2 hf2 hb2 hl2 hnum hk2 hk0 hs0 HDL q1 q2
                            by_cases h200 : 200 < wa.at + 1
                            · have hgt : (200 : Int) < (wa.at : Int) + 1 := by omega
                              have hE : FIN = stepA x.il wa (enOf r9) := by have := unhide HFN; rw [if_pos h200] at this; exact this.symm
                              subst hE
                              gi_wp2_with (first | go_skip | ((with_reducible show wpListIn _ _ _ _ _ _ _ _); first | ((refine inV (fun _ => trivial) (by rfl) (by intro c h; cases h) (ex_addWw rfl rfl rfl hwat) ?_); simp only [Act.put, n1, n2, n3]) | ((refine inV (fun _ => trivial) (by rfl) (by intro c h; cases h) (ex_load1 3 Tryd.isAgg3 rfl rfl ((unhide LK).get 4 rfl) rfl) ?_); simp only [Act.put, n1, n2, n3]) | ((refine stR (vs := [.int .i64 ((wa.at : Int) + 1)]) 4 3 (fun _ => trivial) (by rfl) (by intro c h; cases h) rfl rfl rfl rfl (by simp [Value.oneCell']) siz3 (unhide LK) rfl (Nat.le_refl _) (unhide hB16) ?_); intro Z2 hZ2 hfz2; have HNU := HNU0; replace LK := hide hZ2; have HNU2 := hide ((World.cell?_of_block (a := ⟨r9.b, 20, none⟩) (hfz2.block r9.b (cell_lt (unhide HNU)) (by simpa using unhide HNE))).trans (unhide HNU)); clear hZ2 hfz2; simp only [Act.put, n1, n2, n3])))
                              exact ⟨(unhide LK).kl, rfl, T2, (unhide LK).rj, unhide HAI⟩
                            · have hgt : ¬ (200 : Int) < (wa.at : Int) + 1 := by omega
                              have HE : Hid (walkA x.il (s9.left - 1) (stepA x.il wa (enOf r9)) = FIN) := hide (by have := unhide HFN; rw [if_neg h200] at this; exact this)
                              gi_wp2_with (first | go_skip | ((with_reducible show wpListIn _ _ _ _ _ _ _ _); first | ((refine inV (fun _ => trivial) (by rfl) (by intro c h; cases h) (ex_addWw rfl rfl rfl hwat) ?_); simp only [Act.put, n1, n2, n3]) | ((refine inV (fun _ => trivial) (by rfl) (by intro c h; cases h) (ex_load1 3 Tryd.isAgg3 rfl rfl ((unhide LK).get 4 rfl) rfl) ?_); simp only [Act.put, n1, n2, n3]) | ((refine stR (vs := [.int .i64 ((wa.at : Int) + 1)]) 4 3 (fun _ => trivial) (by rfl) (by intro c h; cases h) rfl rfl rfl rfl (by simp [Value.oneCell']) siz3 (unhide LK) rfl (Nat.le_refl _) (unhide hB16) ?_); intro Z2 hZ2 hfz2; have HNU := HNU0; replace LK := hide hZ2; have HNU2 := hide ((World.cell?_of_block (a := ⟨r9.b, 20, none⟩) (hfz2.block r9.b (cell_lt (unhide HNU)) (by simpa using unhide HNE))).trans (unhide HNU)); clear hZ2 hfz2; simp only [Act.put, n1, n2, n3])))
                              exact ⟨(unhide LK).kl, ⟨T2, r9.n, some r9.b, s9.left - 1⟩, ⟨rfl, rfl, by have := (unhide HG).2.1; show s9.left - 1 < s9.left; omega⟩, stepA x.il wa (enOf r9), (unhide LK).rj, unhide HAI, rfl, by have := (unhide HG).2.1; show s9.left - 1 + (wa.at + 1) = 201; omega, by show wa.at + 1 ≤ 200; omega, unhide HE, by have h1 := unhide HL2; have h2 := (unhide HG).2.2.2; have h3 := (unhide HG).2.1; show T2.last + (s9.left - 1) < 99300; omega, Nat.le_trans (unhide HRN) (unhide HL3), fun b hb => by cases hb; exact unhide HNU2⟩
                          · have e1 : (y.kd == 1) = false := by simp [q1]
                            have e2 : (y.kd == 2) = false := by simp [q2]
                            have HAI : Hid (abs s9.T = innerA x.il wa.at wa.s) := hide (by unfold innerA; rw [unhide HY]; dsimp only; rw [if_neg q1, if_neg q2]; exact unhide HAK)
                            clear q1 q2
                            have HL2 : Hid (s9.T.last ≤ s9.T.last + 1) := hide (by have := unhide HLK; omega)
                            have HL3 : Hid (s9.T.last ≤ s9.T.last) := hide (by have := unhide HLK; omega)
                            by_cases h200 : 200 < wa.at + 1
                            · have hgt : (200 : Int) < (wa.at : Int) + 1 := by omega
                              have hE : FIN = stepA x.il wa (enOf r9) := by have := unhide HFN; rw [if_pos h200] at this; exact this.symm
                              subst hE
                              gi_wp2_with (first | go_skip | ((with_reducible show wpListIn _ _ _ _ _ _ _ _); first | ((refine inV (fun _ => trivial) (by rfl) (by intro c h; cases h) (ex_mulW rfl rfl rfl) ?_); simp only [Act.put, n1, n2, n3]) | ((refine inV (fun _ => trivial) (by rfl) (by intro c h; cases h) (ex_addWw rfl rfl rfl hwat) ?_); simp only [Act.put, n1, n2, n3]) | ((refine inV (fun _ => trivial) (by rfl) (by intro c h; cases h) (ex_addW rfl rfl rfl) ?_); simp only [Act.put, n1, n2, n3]) | ((refine inV (fun _ => trivial) (by rfl) (by intro c h; cases h) (ex_lenS9 rfl rfl) ?_); simp only [Act.put, n1, n2, n3]) | ((refine inV (fun _ => trivial) (by rfl) (by intro c h; cases h) (ex_load1 3 Tryd.isAgg3 rfl rfl ((unhide LK).get 3 rfl) rfl) ?_); simp only [Act.put, n1, n2, n3]) | ((refine inV (fun _ => trivial) (by rfl) (by intro c h; cases h) (ex_load1 29 Tryd.isAgg29 rfl rfl ((unhide LK).get 0 rfl) rfl) ?_); simp only [Act.put, n1, n2, n3]) | ((refine inV (fun _ => trivial) (by rfl) (by intro c h; cases h) (ex_load1 4 Tryd.isAgg4 rfl rfl ((unhide LK).get 1 rfl) rfl) ?_); simp only [Act.put, n1, n2, n3]) | ((refine inV (fun _ => trivial) (by rfl) (by intro c h; cases h) (ex_load1 22 Tryd.isAgg22 rfl rfl ((unhide LK).get 2 rfl) rfl) ?_); simp only [Act.put, n1, n2, n3]) | ((refine inV (fun _ => trivial) (by rfl) (by intro c h; cases h) (ex_load1 3 Tryd.isAgg3 rfl rfl ((unhide LK).get 4 rfl) rfl) ?_); simp only [Act.put, n1, n2, n3]) | ((refine inV (fun _ => trivial) (by rfl) (by intro c h; cases h) (ex_load1 9 Tryd.isAgg9 rfl rfl (unhide HH9) rfl) ?_); simp only [Act.put, n1, n2, n3]) | ((refine inV (fun _ => trivial) (by rfl) (by intro c h; cases h) (ex_load1 3 Tryd.isAgg3 rfl rfl (unhide HH9) rfl) ?_); simp only [Act.put, n1, n2, n3]) | ((refine stR (vs := [.int .i64 (hashI wa.n r9.k)]) 3 3 (fun _ => trivial) (by rfl) (by intro c h; cases h) rfl rfl rfl rfl (by simp [Value.oneCell']) siz3 (unhide LK) rfl (Nat.le_refl _) (unhide hB11) ?_); intro Z1 hZ1 hfz1; replace LK := hide hZ1; clear hZ1 hfz1; simp only [Act.put, n1, n2, n3]) | ((refine inV (fun _ => trivial) (by rfl) (by intro c h; cases h) (ex_lenG 22 42 Tryd.underlying22 rfl rfl) ?_); simp only [Act.put, n1, n2, n3]) | ((refine inV (fun _ => trivial) (by rfl) (by intro c h; cases h) (ex_indexG 22 23 wa.at und22 idx22 rfl rfl rfl (unhide HINL)) ?_); simp only [Act.put, n1, n2, n3]) | ((refine inV (fun _ => trivial) (by rfl) (by intro c h; cases h) (ex_loadC 3 Tryd.isAgg3 rfl rfl ((unhide HYR _ (unhide LK).rj.fr) 0 _ rfl)) ?_); simp only [Act.put, n1, n2, n3]) | ((refine inV (fun _ => trivial) (by rfl) (by intro c h; cases h) (ex_loadR (vs := y.k.cs) 34 2 row33x siz33 rfl rfl (act_rangeK (unhide HYR _ (unhide LK).rj.fr)) rfl) ?_); simp only [Act.put, n1, n2, n3]) | ((refine inV (fun _ => trivial) (by rfl) (by intro c h; cases h) (ex_load1 3 Tryd.isAgg3 rfl rfl ((unhide LK).get 4 rfl) rfl) ?_); simp only [Act.put, n1, n2, n3]) | ((refine stR (vs := [.int .i64 ((wa.at : Int) + 1)]) 4 3 (fun _ => trivial) (by rfl) (by intro c h; cases h) rfl rfl rfl rfl (by simp [Value.oneCell']) siz3 (unhide LK) rfl (Nat.le_refl _) (unhide hB16) ?_); intro Z2 hZ2 hfz2; have HNU := hide (num_cell ((unhide LK).rj.ri.is.rows r9 (unhide HRK))); replace LK := hide hZ2; have HNU2 := hide ((World.cell?_of_block (a := ⟨r9.b, 20, none⟩) (hfz2.block r9.b (cell_lt (unhide HNU)) (by simpa using unhide HNE))).trans (unhide HNU)); clear hZ2 hfz2; simp only [Act.put, n1, n2, n3])))
                              exact ⟨(unhide LK).kl, rfl, s9.T, (unhide LK).rj, unhide HAI⟩
                            · have hgt : ¬ (200 : Int) < (wa.at : Int) + 1 := by omega
                              have HE : Hid (walkA x.il (s9.left - 1) (stepA x.il wa (enOf r9)) = FIN) := hide (by have := unhide HFN; rw [if_neg h200] at this; exact this)
                              gi_wp2_with (first | go_skip | ((with_reducible show wpListIn _ _ _ _ _ _ _ _); first | ((refine inV (fun _ => trivial) (by rfl) (by intro c h; cases h) (ex_mulW rfl rfl rfl) ?_); simp only [Act.put, n1, n2, n3]) | ((refine inV (fun _ => trivial) (by rfl) (by intro c h; cases h) (ex_addWw rfl rfl rfl hwat) ?_); simp only [Act.put, n1, n2, n3]) | ((refine inV (fun _ => trivial) (by rfl) (by intro c h; cases h) (ex_addW rfl rfl rfl) ?_); simp only [Act.put, n1, n2, n3]) | ((refine inV (fun _ => trivial) (by rfl) (by intro c h; cases h) (ex_lenS9 rfl rfl) ?_); simp only [Act.put, n1, n2, n3]) | ((refine inV (fun _ => trivial) (by rfl) (by intro c h; cases h) (ex_load1 3 Tryd.isAgg3 rfl rfl ((unhide LK).get 3 rfl) rfl) ?_); simp only [Act.put, n1, n2, n3]) | ((refine inV (fun _ => trivial) (by rfl) (by intro c h; cases h) (ex_load1 29 Tryd.isAgg29 rfl rfl ((unhide LK).get 0 rfl) rfl) ?_); simp only [Act.put, n1, n2, n3]) | ((refine inV (fun _ => trivial) (by rfl) (by intro c h; cases h) (ex_load1 4 Tryd.isAgg4 rfl rfl ((unhide LK).get 1 rfl) rfl) ?_); simp only [Act.put, n1, n2, n3]) | ((refine inV (fun _ => trivial) (by rfl) (by intro c h; cases h) (ex_load1 22 Tryd.isAgg22 rfl rfl ((unhide LK).get 2 rfl) rfl) ?_); simp only [Act.put, n1, n2, n3]) | ((refine inV (fun _ => trivial) (by rfl) (by intro c h; cases h) (ex_load1 3 Tryd.isAgg3 rfl rfl ((unhide LK).get 4 rfl) rfl) ?_); simp only [Act.put, n1, n2, n3]) | ((refine inV (fun _ => trivial) (by rfl) (by intro c h; cases h) (ex_load1 9 Tryd.isAgg9 rfl rfl (unhide HH9) rfl) ?_); simp only [Act.put, n1, n2, n3]) | ((refine inV (fun _ => trivial) (by rfl) (by intro c h; cases h) (ex_load1 3 Tryd.isAgg3 rfl rfl (unhide HH9) rfl) ?_); simp only [Act.put, n1, n2, n3]) | ((refine stR (vs := [.int .i64 (hashI wa.n r9.k)]) 3 3 (fun _ => trivial) (by rfl) (by intro c h; cases h) rfl rfl rfl rfl (by simp [Value.oneCell']) siz3 (unhide LK) rfl (Nat.le_refl _) (unhide hB11) ?_); intro Z1 hZ1 hfz1; replace LK := hide hZ1; clear hZ1 hfz1; simp only [Act.put, n1, n2, n3]) | ((refine inV (fun _ => trivial) (by rfl) (by intro c h; cases h) (ex_lenG 22 42 Tryd.underlying22 rfl rfl) ?_); simp only [Act.put, n1, n2, n3]) | ((refine inV (fun _ => trivial) (by rfl) (by intro c h; cases h) (ex_indexG 22 23 wa.at und22 idx22 rfl rfl rfl (unhide HINL)) ?_); simp only [Act.put, n1, n2, n3]) | ((refine inV (fun _ => trivial) (by rfl) (by intro c h; cases h) (ex_loadC 3 Tryd.isAgg3 rfl rfl ((unhide HYR _ (unhide LK).rj.fr) 0 _ rfl)) ?_); simp only [Act.put, n1, n2, n3]) | ((refine inV (fun _ => trivial) (by rfl) (by intro c h; cases h) (ex_loadR (vs := y.k.cs) 34 2 row33x siz33 rfl rfl (act_rangeK (unhide HYR _ (unhide LK).rj.fr)) rfl) ?_); simp only [Act.put, n1, n2, n3]) | ((refine inV (fun _ => trivial) (by rfl) (by intro c h; cases h) (ex_load1 3 Tryd.isAgg3 rfl rfl ((unhide LK).get 4 rfl) rfl) ?_); simp only [Act.put, n1, n2, n3]) | ((refine stR (vs := [.int .i64 ((wa.at : Int) + 1)]) 4 3 (fun _ => trivial) (by rfl) (by intro c h; cases h) rfl rfl rfl rfl (by simp [Value.oneCell']) siz3 (unhide LK) rfl (Nat.le_refl _) (unhide hB16) ?_); intro Z2 hZ2 hfz2; have HNU := hide (num_cell ((unhide LK).rj.ri.is.rows r9 (unhide HRK))); replace LK := hide hZ2; have HNU2 := hide ((World.cell?_of_block (a := ⟨r9.b, 20, none⟩) (hfz2.block r9.b (cell_lt (unhide HNU)) (by simpa using unhide HNE))).trans (unhide HNU)); clear hZ2 hfz2; simp only [Act.put, n1, n2, n3])))
                              exact ⟨(unhide LK).kl, ⟨s9.T, r9.n, some r9.b, s9.left - 1⟩, ⟨rfl, rfl, by have := (unhide HG).2.1; show s9.left - 1 < s9.left; omega⟩, stepA x.il wa (enOf r9), (unhide LK).rj, unhide HAI, rfl, by have := (unhide HG).2.1; show s9.left - 1 + (wa.at + 1) = 201; omega, by show wa.at + 1 ≤ 200; omega, unhide HE, by have h1 := unhide HL2; have h2 := (unhide HG).2.2.2; have h3 := (unhide HG).2.1; show s9.T.last + (s9.left - 1) < 99300; omega, Nat.le_trans (unhide HRN) (unhide HL3), fun b hb => by cases hb; exact unhide HNU2⟩
                      · have dat : decide ((wa.at : Int) < (x.il.length : Int)) = false := decide_eq_false (by omega)
                        have HAI : Hid (abs s9.T = innerA x.il wa.at wa.s) := hide (by rw [unhide HAK]; unfold innerA; rw [List.getElem?_eq_none (by omega)])
                        have HL2 : Hid (s9.T.last ≤ s9.T.last + 1) := hide (by have := unhide HLK; omega)
                        have HL3 : Hid (s9.T.last ≤ s9.T.last) := hide (by have := unhide HLK; omega)
                        by_cases h200 : 200 < wa.at + 1
                        · have hgt : (200 : Int) < (wa.at : Int) + 1 := by omega
                          have hE : FIN = stepA x.il wa (enOf r9) := by have := unhide HFN; rw [if_pos h200] at this; exact this.symm
                          subst hE
                          gi_wp2_with (first | go_skip | ((with_reducible show wpListIn _ _ _ _ _ _ _ _); first | ((refine inV (fun _ => trivial) (by rfl) (by intro c h; cases h) (ex_mulW rfl rfl rfl) ?_); simp only [Act.put, n1, n2, n3]) | ((refine inV (fun _ => trivial) (by rfl) (by intro c h; cases h) (ex_addWw rfl rfl rfl hwat) ?_); simp only [Act.put, n1, n2, n3]) | ((refine inV (fun _ => trivial) (by rfl) (by intro c h; cases h) (ex_addW rfl rfl rfl) ?_); simp only [Act.put, n1, n2, n3]) | ((refine inV (fun _ => trivial) (by rfl) (by intro c h; cases h) (ex_lenS9 rfl rfl) ?_); simp only [Act.put, n1, n2, n3]) | ((refine inV (fun _ => trivial) (by rfl) (by intro c h; cases h) (ex_load1 3 Tryd.isAgg3 rfl rfl ((unhide LK).get 3 rfl) rfl) ?_); simp only [Act.put, n1, n2, n3]) | ((refine inV (fun _ => trivial) (by rfl) (by intro c h; cases h) (ex_load1 29 Tryd.isAgg29 rfl rfl ((unhide LK).get 0 rfl) rfl) ?_); simp only [Act.put, n1, n2, n3]) | ((refine inV (fun _ => trivial) (by rfl) (by intro c h; cases h) (ex_load1 4 Tryd.isAgg4 rfl rfl ((unhide LK).get 1 rfl) rfl) ?_); simp only [Act.put, n1, n2, n3]) | ((refine inV (fun _ => trivial) (by rfl) (by intro c h; cases h) (ex_load1 22 Tryd.isAgg22 rfl rfl ((unhide LK).get 2 rfl) rfl) ?_); simp only [Act.put, n1, n2, n3]) | ((refine inV (fun _ => trivial) (by rfl) (by intro c h; cases h) (ex_load1 3 Tryd.isAgg3 rfl rfl ((unhide LK).get 4 rfl) rfl) ?_); simp only [Act.put, n1, n2, n3]) | ((refine inV (fun _ => trivial) (by rfl) (by intro c h; cases h) (ex_load1 9 Tryd.isAgg9 rfl rfl (unhide HH9) rfl) ?_); simp only [Act.put, n1, n2, n3]) | ((refine inV (fun _ => trivial) (by rfl) (by intro c h; cases h) (ex_load1 3 Tryd.isAgg3 rfl rfl (unhide HH9) rfl) ?_); simp only [Act.put, n1, n2, n3]) | ((refine stR (vs := [.int .i64 (hashI wa.n r9.k)]) 3 3 (fun _ => trivial) (by rfl) (by intro c h; cases h) rfl rfl rfl rfl (by simp [Value.oneCell']) siz3 (unhide LK) rfl (Nat.le_refl _) (unhide hB11) ?_); intro Z1 hZ1 hfz1; replace LK := hide hZ1; clear hZ1 hfz1; simp only [Act.put, n1, n2, n3]) | ((refine inV (fun _ => trivial) (by rfl) (by intro c h; cases h) (ex_lenG 22 42 Tryd.underlying22 rfl rfl) ?_); simp only [Act.put, n1, n2, n3]) | ((refine inV (fun _ => trivial) (by rfl) (by intro c h; cases h) (ex_addWw rfl rfl rfl hwat) ?_); simp only [Act.put, n1, n2, n3]) | ((refine inV (fun _ => trivial) (by rfl) (by intro c h; cases h) (ex_load1 3 Tryd.isAgg3 rfl rfl ((unhide LK).get 4 rfl) rfl) ?_); simp only [Act.put, n1, n2, n3]) | ((refine stR (vs := [.int .i64 ((wa.at : Int) + 1)]) 4 3 (fun _ => trivial) (by rfl) (by intro c h; cases h) rfl rfl rfl rfl (by simp [Value.oneCell']) siz3 (unhide LK) rfl (Nat.le_refl _) (unhide hB16) ?_); intro Z2 hZ2 hfz2; have HNU := hide (num_cell ((unhide LK).rj.ri.is.rows r9 (unhide HRK))); replace LK := hide hZ2; have HNU2 := hide ((World.cell?_of_block (a := ⟨r9.b, 20, none⟩) (hfz2.block r9.b (cell_lt (unhide HNU)) (by simpa using unhide HNE))).trans (unhide HNU)); clear hZ2 hfz2; simp only [Act.put, n1, n2, n3])))
                          exact ⟨(unhide LK).kl, rfl, s9.T, (unhide LK).rj, unhide HAI⟩
                        · have hgt : ¬ (200 : Int) < (wa.at : Int) + 1 := by omega
                          have HE : Hid (walkA x.il (s9.left - 1) (stepA x.il wa (enOf r9)) = FIN) := hide (by have := unhide HFN; rw [if_neg h200] at this; exact this)
                          gi_wp2_with (first | go_skip | ((with_reducible show wpListIn _ _ _ _ _ _ _ _); first | ((refine inV (fun _ => trivial) (by rfl) (by intro c h; cases h) (ex_mulW rfl rfl rfl) ?_); simp only [Act.put, n1, n2, n3]) | ((refine inV (fun _ => trivial) (by rfl) (by intro c h; cases h) (ex_addWw rfl rfl rfl hwat) ?_); simp only [Act.put, n1, n2, n3]) | ((refine inV (fun _ => trivial) (by rfl) (by intro c h; cases h) (ex_addW rfl rfl rfl) ?_); simp only [Act.put, n1, n2, n3]) | ((refine inV (fun _ => trivial) (by rfl) (by intro c h; cases h) (ex_lenS9 rfl rfl) ?_); simp only [Act.put, n1, n2, n3]) | ((refine inV (fun _ => trivial) (by rfl) (by intro c h; cases h) (ex_load1 3 Tryd.isAgg3 rfl rfl ((unhide LK).get 3 rfl) rfl) ?_); simp only [Act.put, n1, n2, n3]) | ((refine inV (fun _ => trivial) (by rfl) (by intro c h; cases h) (ex_load1 29 Tryd.isAgg29 rfl rfl ((unhide LK).get 0 rfl) rfl) ?_); simp only [Act.put, n1, n2, n3]) | ((refine inV (fun _ => trivial) (by rfl) (by intro c h; cases h) (ex_load1 4 Tryd.isAgg4 rfl rfl ((unhide LK).get 1 rfl) rfl) ?_); simp only [Act.put, n1, n2, n3]) | ((refine inV (fun _ => trivial) (by rfl) (by intro c h; cases h) (ex_load1 22 Tryd.isAgg22 rfl rfl ((unhide LK).get 2 rfl) rfl) ?_); simp only [Act.put, n1, n2, n3]) | ((refine inV (fun _ => trivial) (by rfl) (by intro c h; cases h) (ex_load1 3 Tryd.isAgg3 rfl rfl ((unhide LK).get 4 rfl) rfl) ?_); simp only [Act.put, n1, n2, n3]) | ((refine inV (fun _ => trivial) (by rfl) (by intro c h; cases h) (ex_load1 9 Tryd.isAgg9 rfl rfl (unhide HH9) rfl) ?_); simp only [Act.put, n1, n2, n3]) | ((refine inV (fun _ => trivial) (by rfl) (by intro c h; cases h) (ex_load1 3 Tryd.isAgg3 rfl rfl (unhide HH9) rfl) ?_); simp only [Act.put, n1, n2, n3]) | ((refine stR (vs := [.int .i64 (hashI wa.n r9.k)]) 3 3 (fun _ => trivial) (by rfl) (by intro c h; cases h) rfl rfl rfl rfl (by simp [Value.oneCell']) siz3 (unhide LK) rfl (Nat.le_refl _) (unhide hB11) ?_); intro Z1 hZ1 hfz1; replace LK := hide hZ1; clear hZ1 hfz1; simp only [Act.put, n1, n2, n3]) | ((refine inV (fun _ => trivial) (by rfl) (by intro c h; cases h) (ex_lenG 22 42 Tryd.underlying22 rfl rfl) ?_); simp only [Act.put, n1, n2, n3]) | ((refine inV (fun _ => trivial) (by rfl) (by intro c h; cases h) (ex_addWw rfl rfl rfl hwat) ?_); simp only [Act.put, n1, n2, n3]) | ((refine inV (fun _ => trivial) (by rfl) (by intro c h; cases h) (ex_load1 3 Tryd.isAgg3 rfl rfl ((unhide LK).get 4 rfl) rfl) ?_); simp only [Act.put, n1, n2, n3]) | ((refine stR (vs := [.int .i64 ((wa.at : Int) + 1)]) 4 3 (fun _ => trivial) (by rfl) (by intro c h; cases h) rfl rfl rfl rfl (by simp [Value.oneCell']) siz3 (unhide LK) rfl (Nat.le_refl _) (unhide hB16) ?_); intro Z2 hZ2 hfz2; have HNU := hide (num_cell ((unhide LK).rj.ri.is.rows r9 (unhide HRK))); replace LK := hide hZ2; have HNU2 := hide ((World.cell?_of_block (a := ⟨r9.b, 20, none⟩) (hfz2.block r9.b (cell_lt (unhide HNU)) (by simpa using unhide HNE))).trans (unhide HNU)); clear hZ2 hfz2; simp only [Act.put, n1, n2, n3])))
                          exact ⟨(unhide LK).kl, ⟨s9.T, r9.n, some r9.b, s9.left - 1⟩, ⟨rfl, rfl, by have := (unhide HG).2.1; show s9.left - 1 < s9.left; omega⟩, stepA x.il wa (enOf r9), (unhide LK).rj, unhide HAI, rfl, by have := (unhide HG).2.1; show s9.left - 1 + (wa.at + 1) = 201; omega, by show wa.at + 1 ≤ 200; omega, unhide HE, by have h1 := unhide HL2; have h2 := (unhide HG).2.2.2; have h3 := (unhide HG).2.1; show s9.T.last + (s9.left - 1) < 99300; omega, Nat.le_trans (unhide HRN) (unhide HL3), fun b hb => by cases hb; exact unhide HNU2⟩
                    case done =>
                      rintro D9 s9 W9x hD9 hF9 hI9 hM9
                      obtain ⟨T2, hJ2, hA2⟩ := hI9.fin hF9
                      clear hF9 hI9
                      have hds : D9 ∉ ds := fun hm => by have := (Array.getElem?_eq_some_iff.1 ((unhide LL).mkd D9 hm)).1; omega
                      have LL2 : Hid (RJ w W9x T T2 ((fun n a => [(B3, [.pointer (some ⟨T.t, 0, none⟩)]), (B5, [.bool false]), (B10, actCs x.kd x.k x.d x.n (.slice IA x.il.length ic)), (B11, [.int .i64 n]), (B16, [.int .i64 a]), (Bn, [.pointer (some ⟨T.t, 0, none⟩)])]) FIN.n FIN.at) tv xs (D9 :: ds)) := hide (hJ2.mark hM9 (Nat.le_trans (unhide LL).fr.size hD9) hds)
                      have HF : Hid (abs T2 = (actA x (abs T1)).1) := hide (by rw [unhide HAC]; exact hA2)
                      have HV : Hid (FIN.n = (actA x (abs T1)).2) := hide (by rw [unhide HAC])
                      clear hds hJ2 hA2 hM9 hD9 LL
                      have LL := LL2
                      clear LL2
                      rw [show ({ target := .collected D9, args := #[] } : Deferred) :: marks ds = marks (D9 :: ds) from rfl]
                      go_wp2_with fail
                      obtain ⟨LB, hLB, hLL⟩ : ∃ LB, LB = _ ∧ RJ w _ T T2 LB tv xs (D9 :: ds) := ⟨_, rfl, unhide LL⟩
                      have hg3 : LB[0]? = some (B3, [.pointer (some ⟨T.t, 0, none⟩)]) := by rw [hLB]; rfl
                      have hg11 : LB[3]? = some (B11, [.int .i64 (FIN.n)]) := by rw [hLB]; rfl
                      have hq0 := hLL.drew
                      refine wp_region_held_drew (P := Tryd.prog) (S := fun X => RI w X T T2 LB) (by kernel_rfl) hq0.ri (fun hS0 => ?_)
                      refine gsem 0 (some 138) (tv) rfl (by kernel_rfl) (by kernel_rfl) (by kernel_rfl) (fun _ _ _ h => h) (by kernel_rfl) (by kernel_rfl) (fun _ _ => by kernel_rfl) hq0.ri ?_
                      simp only [Act.put, n1, n2, n3]
                      refine gsem 1 (some 139) (.int .i64 (FIN.n)) rfl (by kernel_rfl) (by kernel_rfl) (by kernel_rfl) (fun _ _ _ h => h) (by kernel_rfl) (by kernel_rfl) (fun X hX => ex_load1 3 Tryd.isAgg3 rfl rfl (hX.hq.get 3 hg11) rfl) hq0.ri ?_
                      simp only [Act.put, n1, n2, n3]
                      refine gsem 2 (some 140) (.pointer (some ⟨T.t, 0, none⟩)) rfl (by kernel_rfl) (by kernel_rfl) (by kernel_rfl) (fun _ _ _ h => h) (by kernel_rfl) (by kernel_rfl) (fun X hX => ex_load1 29 Tryd.isAgg29 rfl rfl (hX.hq.get 0 hg3) rfl) hq0.ri ?_
                      simp only [Act.put, n1, n2, n3]
                      have HLN := hide (len30 T2 _ hq0.ri.is)
                      rw [hq0.ri.tq] at HLN
                      refine wpAnyH_ready (rs := [3]) (by kernel_rfl) (by simp) (gcallR 3 (some 141) rfl (by kernel_rfl) (by kernel_rfl) (by kernel_rfl) (unhide HLN) ?_ AllReadyH.nil)
                      rintro _ Y3 ⟨rfl, hY3⟩
                      subst hY3
                      refine ⟨_, rfl, hq0.ri, ?_⟩
                      simp only [Act.put, n1, n2, n3]
                      have hI4 := hq0.fresh ([.int .i64 (FIN.n), .int .i64 (T2.live.length : Nat)]) 3
                      have hb4 := hq0.bl (Obj.cells ([.int .i64 (FIN.n), .int .i64 (T2.live.length : Nat)]).toArray 3)
                      refine wpAnyH_ready (rs := [4]) (by kernel_rfl) (by simp) (gval 4 (some 142) rfl (by kernel_rfl) (by kernel_rfl) (ex_build26 (FIN.n) (T2.live.length : Nat) rfl rfl rfl) (hq0.ri.on hb4) ?_ AllReadyH.nil)
                      simp only [Act.put, n1, n2, n3]
                      have hq4 := hq0.on hb4
                      refine wpAnyH_ready (rs := [5]) (by kernel_rfl) (by simp) (gappF (base := w.heap.size) (size := 1) (bytes := 8) (k := xs.length) (m := 2) (news := [.int .i64 (FIN.n), .int .i64 (T2.live.length : Nat)]) (xs := xs.map (fun z => .int .i64 z)) (v := tv) 5 (some 143) rfl (by kernel_rfl) (by kernel_rfl) rfl rfl rfl Tryd.underlying26 inf3 rfl (by decide) hq4.own hI4 rfl (by simp [Value.oneCell']) (by have := unhide HXS; omega) (by decide) hq4.fr.size (fun X hg => hq4.ri_grown hg) ?_ AllReadyH.nil)
                      intro A6 c6 X6 hO6 hg6 hF6
                      simp only [Act.put, n1, n2, n3]
                      have hq6 := hq4.app (ys := [FIN.n, (T2.live.length : Int)]) (tv2 := .slice A6 (xs.length + 2) c6) (by simpa using hO6) hg6 hF6
                      refine gsem 6 (some 8) (.slice A6 (xs.length + 2) c6) rfl (by kernel_rfl) (by kernel_rfl) (by kernel_rfl) (fun _ _ _ h => h) (by kernel_rfl) (by kernel_rfl) (fun _ _ => by kernel_rfl) hq6.ri ?_
                      simp only [Act.put, n1, n2, n3]
                      refine wpAnyH_done (by kernel_rfl) ?_ _
                      try simp only [Act.put, n1, n2, n3]
                      rw [hLB] at hq6
                      have LN : Hid (RJ w X6 T T2 [(B3, [.pointer (some ⟨T.t, 0, none⟩)]), (B5, [.bool false])] (.slice A6 (xs.length + 2) c6) (xs ++ [FIN.n, (T2.live.length : Int)]) (D9 :: ds)) := hide (RJ.left (L := [(B3, [.pointer (some ⟨T.t, 0, none⟩)]), (B5, [.bool false])]) (M := _) hq6)
                      clear hq0 hq4 hq6 hLL hLB hg3 hg11 hI4 hb4 hO6 hg6 hF6 hS0 HLN LL
                      go_wp2
                      rw [show ((i : Int) + 1) = ((i + 1 : Nat) : Int) from rfl]
                      exact (Handed.intro (l.length - (i + 1)) (by have := unhide HLT; omega) (hJ _ _ _ (LI8.mk (i + 1) T2 _ (D9 :: ds) _ _ _ _ _ _ _ _ _ _ _ _ _ _ _ _ _ _ _ _ _ _ _ _ _ _ _ _ _ _ _ _ _ _ _ _ _ _ _ _ _ _ _ _ _ _ _ _ _ _ _ _ _ _ _ _ _ _ _ _ _ _ _ _ _ _ _ _ _ _ _ _ _ _ _ _ _ _ _ _ _ _ _ _ _ _ _ _ _ _ _ _ _ _ _ _ _ _ _ _ _ _ _ _ _ _ _ _ _ _ _ _ _ _ _ _ _ _ _ _ _ _ _ _ _ _ _ _ _ _ _ _ _ _ _ _ _ _ (by have := unhide HLT; omega) (Nat.le_refl _) (hide ⟨unhide LN, by have h1 := unhide HDR; rw [← unhide HF, ← unhide HV] at h1; have h2 := (unhide HI).2.1; rw [h1, abs_len] at h2; exact h2, by have h1 := act_last x (abs T1); rw [← unhide HF] at h1; have h2 : T2.last ≤ T1.last + 201 := h1; have h3 := (unhide HI).2.2.1; omega, (unhide HI).2.2.2.1, (unhide HI).2.2.2.2.1, by have := (unhide HI).2.2.2.2.2; simp; omega⟩))))
                    case stop =>
                      rintro D9 c9 W9x hD9 ⟨rfl, T2, hJ2, hA2⟩ hM9
                      refine wpIn_wide.2 ?_
                      have hds : D9 ∉ ds := fun hm => by have := (Array.getElem?_eq_some_iff.1 ((unhide LL).mkd D9 hm)).1; omega
                      have LL2 : Hid (RJ w W9x T T2 ((fun n a => [(B3, [.pointer (some ⟨T.t, 0, none⟩)]), (B5, [.bool false]), (B10, actCs x.kd x.k x.d x.n (.slice IA x.il.length ic)), (B11, [.int .i64 n]), (B16, [.int .i64 a]), (Bn, [.pointer (some ⟨T.t, 0, none⟩)])]) FIN.n FIN.at) tv xs (D9 :: ds)) := hide (hJ2.mark hM9 (Nat.le_trans (unhide LL).fr.size hD9) hds)
                      have HF : Hid (abs T2 = (actA x (abs T1)).1) := hide (by rw [unhide HAC]; exact hA2)
                      have HV : Hid (FIN.n = (actA x (abs T1)).2) := hide (by rw [unhide HAC])
                      clear hds hJ2 hA2 hM9 hD9 LL
                      have LL := LL2
                      clear LL2
                      rw [show ({ target := .collected D9, args := #[] } : Deferred) :: marks ds = marks (D9 :: ds) from rfl]
                      go_wp2_with fail
                      obtain ⟨LB, hLB, hLL⟩ : ∃ LB, LB = _ ∧ RJ w _ T T2 LB tv xs (D9 :: ds) := ⟨_, rfl, unhide LL⟩
                      have hg3 : LB[0]? = some (B3, [.pointer (some ⟨T.t, 0, none⟩)]) := by rw [hLB]; rfl
                      have hg11 : LB[3]? = some (B11, [.int .i64 (FIN.n)]) := by rw [hLB]; rfl
                      have hq0 := hLL.drew
                      refine wp_region_held_drew (P := Tryd.prog) (S := fun X => RI w X T T2 LB) (by kernel_rfl) hq0.ri (fun hS0 => ?_)
                      refine gsem 0 (some 138) (tv) rfl (by kernel_rfl) (by kernel_rfl) (by kernel_rfl) (fun _ _ _ h => h) (by kernel_rfl) (by kernel_rfl) (fun _ _ => by kernel_rfl) hq0.ri ?_
                      simp only [Act.put, n1, n2, n3]
                      refine gsem 1 (some 139) (.int .i64 (FIN.n)) rfl (by kernel_rfl) (by kernel_rfl) (by kernel_rfl) (fun _ _ _ h => h) (by kernel_rfl) (by kernel_rfl) (fun X hX => ex_load1 3 Tryd.isAgg3 rfl rfl (hX.hq.get 3 hg11) rfl) hq0.ri ?_
                      simp only [Act.put, n1, n2, n3]
                      refine gsem 2 (some 140) (.pointer (some ⟨T.t, 0, none⟩)) rfl (by kernel_rfl) (by kernel_rfl) (by kernel_rfl) (fun _ _ _ h => h) (by kernel_rfl) (by kernel_rfl) (fun X hX => ex_load1 29 Tryd.isAgg29 rfl rfl (hX.hq.get 0 hg3) rfl) hq0.ri ?_
                      simp only [Act.put, n1, n2, n3]
                      have HLN := hide (len30 T2 _ hq0.ri.is)
                      rw [hq0.ri.tq] at HLN
                      refine wpAnyH_ready (rs := [3]) (by kernel_rfl) (by simp) (gcallR 3 (some 141) rfl (by kernel_rfl) (by kernel_rfl) (by kernel_rfl) (unhide HLN) ?_ AllReadyH.nil)
                      rintro _ Y3 ⟨rfl, hY3⟩
                      subst hY3
                      refine ⟨_, rfl, hq0.ri, ?_⟩
                      simp only [Act.put, n1, n2, n3]
                      have hI4 := hq0.fresh ([.int .i64 (FIN.n), .int .i64 (T2.live.length : Nat)]) 3
                      have hb4 := hq0.bl (Obj.cells ([.int .i64 (FIN.n), .int .i64 (T2.live.length : Nat)]).toArray 3)
                      refine wpAnyH_ready (rs := [4]) (by kernel_rfl) (by simp) (gval 4 (some 142) rfl (by kernel_rfl) (by kernel_rfl) (ex_build26 (FIN.n) (T2.live.length : Nat) rfl rfl rfl) (hq0.ri.on hb4) ?_ AllReadyH.nil)
                      simp only [Act.put, n1, n2, n3]
                      have hq4 := hq0.on hb4
                      refine wpAnyH_ready (rs := [5]) (by kernel_rfl) (by simp) (gappF (base := w.heap.size) (size := 1) (bytes := 8) (k := xs.length) (m := 2) (news := [.int .i64 (FIN.n), .int .i64 (T2.live.length : Nat)]) (xs := xs.map (fun z => .int .i64 z)) (v := tv) 5 (some 143) rfl (by kernel_rfl) (by kernel_rfl) rfl rfl rfl Tryd.underlying26 inf3 rfl (by decide) hq4.own hI4 rfl (by simp [Value.oneCell']) (by have := unhide HXS; omega) (by decide) hq4.fr.size (fun X hg => hq4.ri_grown hg) ?_ AllReadyH.nil)
                      intro A6 c6 X6 hO6 hg6 hF6
                      simp only [Act.put, n1, n2, n3]
                      have hq6 := hq4.app (ys := [FIN.n, (T2.live.length : Int)]) (tv2 := .slice A6 (xs.length + 2) c6) (by simpa using hO6) hg6 hF6
                      refine gsem 6 (some 8) (.slice A6 (xs.length + 2) c6) rfl (by kernel_rfl) (by kernel_rfl) (by kernel_rfl) (fun _ _ _ h => h) (by kernel_rfl) (by kernel_rfl) (fun _ _ => by kernel_rfl) hq6.ri ?_
                      simp only [Act.put, n1, n2, n3]
                      refine wpAnyH_done (by kernel_rfl) ?_ _
                      try simp only [Act.put, n1, n2, n3]
                      rw [hLB] at hq6
                      have LN : Hid (RJ w X6 T T2 [(B3, [.pointer (some ⟨T.t, 0, none⟩)]), (B5, [.bool false])] (.slice A6 (xs.length + 2) c6) (xs ++ [FIN.n, (T2.live.length : Int)]) (D9 :: ds)) := hide (RJ.left (L := [(B3, [.pointer (some ⟨T.t, 0, none⟩)]), (B5, [.bool false])]) (M := _) hq6)
                      clear hq0 hq4 hq6 hLL hLB hg3 hg11 hI4 hb4 hO6 hg6 hF6 hS0 HLN LL
                      go_wp2
                      rw [show ((i : Int) + 1) = ((i + 1 : Nat) : Int) from rfl]
                      exact (Handed.intro (l.length - (i + 1)) (by have := unhide HLT; omega) (hJ _ _ _ (LI8.mk (i + 1) T2 _ (D9 :: ds) _ _ _ _ _ _ _ _ _ _ _ _ _ _ _ _ _ _ _ _ _ _ _ _ _ _ _ _ _ _ _ _ _ _ _ _ _ _ _ _ _ _ _ _ _ _ _ _ _ _ _ _ _ _ _ _ _ _ _ _ _ _ _ _ _ _ _ _ _ _ _ _ _ _ _ _ _ _ _ _ _ _ _ _ _ _ _ _ _ _ _ _ _ _ _ _ _ _ _ _ _ _ _ _ _ _ _ _ _ _ _ _ _ _ _ _ _ _ _ _ _ _ _ _ _ _ _ _ _ _ _ _ _ _ _ _ _ _ (by have := unhide HLT; omega) (Nat.le_refl _) (hide ⟨unhide LN, by have h1 := unhide HDR; rw [← unhide HF, ← unhide HV] at h1; have h2 := (unhide HI).2.1; rw [h1, abs_len] at h2; exact h2, by have h1 := act_last x (abs T1); rw [← unhide HF] at h1; have h2 : T2.last ≤ T1.last + 201 := h1; have h3 := (unhide HI).2.2.1; omega, (unhide HI).2.2.2.1, (unhide HI).2.2.2.2.1, by have := (unhide HI).2.2.2.2.2; simp; omega⟩))))
                  · have he1 : (x.kd == 1) = false := by simp [h1]
                    have he2 : (x.kd == 2) = false := by simp [h2]
                    have he3 : (x.kd == 3) = false := by simp [h3]
                    have he5 : (x.kd == 5) = false := by simp [h5]
                    have he6 : (x.kd == 6) = false := by simp [h6]
                    have he9 : (x.kd == 9) = false := by simp [h9]
                    have HAC : Hid (actA x (abs T1) = (abs T1, 0)) := hide (by unfold actA; rw [if_neg h1, if_neg h2, if_neg h3, if_neg h5, if_neg h6, if_neg h9])
                    clear h1 h2 h3 h5 h6 h9
                    have HF : Hid (abs Tc = (actA x (abs T1)).1) := hide (by rw [unhide HAC]; exact unhide HTC)
                    have HV : Hid ((0 : Int) = (actA x (abs T1)).2) := hide (by rw [unhide HAC])
                    go_wp2_with (first | go_skip | ((with_reducible show wpList _ _ _ _ _ _); first | ((refine vl (by rfl) (ex_load1 29 Tryd.isAgg29 rfl rfl ((unhide LL).get 0 rfl) rfl) ?_); simp only [Act.put, n1, n2, n3]) | ((refine vl (by rfl) (ex_load1 4 Tryd.isAgg4 rfl rfl ((unhide LL).get 1 rfl) rfl) ?_); simp only [Act.put, n1, n2, n3]) | ((refine vl (by rfl) (ex_load1 3 Tryd.isAgg3 rfl rfl ((unhide LL).get 2 rfl) rfl) ?_); simp only [Act.put, n1, n2, n3]) | ((refine vl (by rfl) (ex_loadN (vs := x.k.cs) 34 2 row33x siz33 rfl rfl ((unhide LL).get 2 rfl) rfl rfl) ?_); simp only [Act.put, n1, n2, n3]) | ((refine vl (by rfl) (ex_loadN (vs := x.d.cs) 40 18 row39 siz39 rfl rfl ((unhide LL).get 2 rfl) rfl rfl) ?_); simp only [Act.put, n1, n2, n3]) | ((refine vl (by rfl) (ex_lenG 22 42 Tryd.underlying22 rfl rfl) ?_); simp only [Act.put, n1, n2, n3]) | ((refine vl (by rfl) (ex_indexG 22 23 i und22 idx22 rfl rfl rfl (unhide HLT)) ?_); simp only [Act.put, n1, n2, n3]) | ((refine vl (by rfl) (ex_loadR (vs := actCs x.kd x.k x.d x.n (.slice IA x.il.length ic)) 42 23 row41 siz41 rfl rfl (unhide HA2 _ (unhide LL).fr) rfl) ?_); simp only [Act.put, n1, n2, n3]) | ((refine alK (v := .agg (zeroAct).toArray) 42 (zeroAct) (by rfl) rfl (fun w => by kernel_rfl) rfl (Nat.succ_pos _) (unhide LL) ?_); intro X10 B10 hB10 L10; replace hB10 := hide hB10; replace LL := hide L10; clear L10; simp only [Act.put, n1, n2, n3]) | ((refine stK (vs := actCs x.kd x.k x.d x.n (.slice IA x.il.length ic)) 2 42 (by rfl) rfl rfl rfl rfl (act_one _ _ _ _ _ _ _) siz41 (unhide LL) rfl (by simp [cput, zeroAct, actCs, zeroK, zeroD, KK.cs, DD.cs, VV.cs]) (unhide hB10) ?_); intro X12 L12; replace LL := hide L12; clear L12; simp only [Act.put, n1, n2, n3]) | ((refine alK (v := .int .i64 0) 3 ([.int .i64 0]) (by rfl) rfl (fun w => by kernel_rfl) rfl (Nat.succ_pos _) (unhide LL) ?_); intro X11 B11 hB11 L11; replace hB11 := hide hB11; replace LL := hide L11; clear L11; simp only [Act.put, n1, n2, n3]) | ((refine stK (vs := [.int .i64 0]) 3 3 (by rfl) rfl rfl rfl rfl (by simp [Value.oneCell']) siz3 (unhide LL) rfl (by simp [cput, zeroAct, actCs, zeroK, zeroD, KK.cs, DD.cs, VV.cs]) (unhide hB11) ?_); intro X13 L13; replace LL := hide L13; clear L13; simp only [Act.put, n1, n2, n3])))
                    obtain ⟨LB, hLB, hLL⟩ : ∃ LB, LB = _ ∧ RJ w _ T Tc LB tv xs ds := ⟨_, rfl, unhide LL⟩
                    have hg3 : LB[0]? = some (B3, [.pointer (some ⟨T.t, 0, none⟩)]) := by rw [hLB]; rfl
                    have hg11 : LB[3]? = some (B11, [.int .i64 (0)]) := by rw [hLB]; rfl
                    have hq0 := hLL.drew
                    refine wp_region_held_drew (P := Tryd.prog) (S := fun X => RI w X T Tc LB) (by kernel_rfl) hq0.ri (fun hS0 => ?_)
                    refine gsem 0 (some 138) (tv) rfl (by kernel_rfl) (by kernel_rfl) (by kernel_rfl) (fun _ _ _ h => h) (by kernel_rfl) (by kernel_rfl) (fun _ _ => by kernel_rfl) hq0.ri ?_
                    simp only [Act.put, n1, n2, n3]
                    refine gsem 1 (some 139) (.int .i64 (0)) rfl (by kernel_rfl) (by kernel_rfl) (by kernel_rfl) (fun _ _ _ h => h) (by kernel_rfl) (by kernel_rfl) (fun X hX => ex_load1 3 Tryd.isAgg3 rfl rfl (hX.hq.get 3 hg11) rfl) hq0.ri ?_
                    simp only [Act.put, n1, n2, n3]
                    refine gsem 2 (some 140) (.pointer (some ⟨T.t, 0, none⟩)) rfl (by kernel_rfl) (by kernel_rfl) (by kernel_rfl) (fun _ _ _ h => h) (by kernel_rfl) (by kernel_rfl) (fun X hX => ex_load1 29 Tryd.isAgg29 rfl rfl (hX.hq.get 0 hg3) rfl) hq0.ri ?_
                    simp only [Act.put, n1, n2, n3]
                    have HLN := hide (len30 Tc _ hq0.ri.is)
                    rw [hq0.ri.tq] at HLN
                    refine wpAnyH_ready (rs := [3]) (by kernel_rfl) (by simp) (gcallR 3 (some 141) rfl (by kernel_rfl) (by kernel_rfl) (by kernel_rfl) (unhide HLN) ?_ AllReadyH.nil)
                    rintro _ Y3 ⟨rfl, hY3⟩
                    subst hY3
                    refine ⟨_, rfl, hq0.ri, ?_⟩
                    simp only [Act.put, n1, n2, n3]
                    have hI4 := hq0.fresh ([.int .i64 (0), .int .i64 (Tc.live.length : Nat)]) 3
                    have hb4 := hq0.bl (Obj.cells ([.int .i64 (0), .int .i64 (Tc.live.length : Nat)]).toArray 3)
                    refine wpAnyH_ready (rs := [4]) (by kernel_rfl) (by simp) (gval 4 (some 142) rfl (by kernel_rfl) (by kernel_rfl) (ex_build26 (0) (Tc.live.length : Nat) rfl rfl rfl) (hq0.ri.on hb4) ?_ AllReadyH.nil)
                    simp only [Act.put, n1, n2, n3]
                    have hq4 := hq0.on hb4
                    refine wpAnyH_ready (rs := [5]) (by kernel_rfl) (by simp) (gappF (base := w.heap.size) (size := 1) (bytes := 8) (k := xs.length) (m := 2) (news := [.int .i64 (0), .int .i64 (Tc.live.length : Nat)]) (xs := xs.map (fun z => .int .i64 z)) (v := tv) 5 (some 143) rfl (by kernel_rfl) (by kernel_rfl) rfl rfl rfl Tryd.underlying26 inf3 rfl (by decide) hq4.own hI4 rfl (by simp [Value.oneCell']) (by have := unhide HXS; omega) (by decide) hq4.fr.size (fun X hg => hq4.ri_grown hg) ?_ AllReadyH.nil)
                    intro A6 c6 X6 hO6 hg6 hF6
                    simp only [Act.put, n1, n2, n3]
                    have hq6 := hq4.app (ys := [0, (Tc.live.length : Int)]) (tv2 := .slice A6 (xs.length + 2) c6) (by simpa using hO6) hg6 hF6
                    refine gsem 6 (some 8) (.slice A6 (xs.length + 2) c6) rfl (by kernel_rfl) (by kernel_rfl) (by kernel_rfl) (fun _ _ _ h => h) (by kernel_rfl) (by kernel_rfl) (fun _ _ => by kernel_rfl) hq6.ri ?_
                    simp only [Act.put, n1, n2, n3]
                    refine wpAnyH_done (by kernel_rfl) ?_ _
                    try simp only [Act.put, n1, n2, n3]
                    rw [hLB] at hq6
                    have LN : Hid (RJ w X6 T Tc [(B3, [.pointer (some ⟨T.t, 0, none⟩)]), (B5, [.bool false])] (.slice A6 (xs.length + 2) c6) (xs ++ [0, (Tc.live.length : Int)]) (ds)) := hide (RJ.left (L := [(B3, [.pointer (some ⟨T.t, 0, none⟩)]), (B5, [.bool false])]) (M := _) hq6)
                    clear hq0 hq4 hq6 hLL hLB hg3 hg11 hI4 hb4 hO6 hg6 hF6 hS0 HLN LL
                    go_wp2
                    rw [show ((i : Int) + 1) = ((i + 1 : Nat) : Int) from rfl]
                    exact (Handed.intro (l.length - (i + 1)) (by have := unhide HLT; omega) (hJ _ _ _ (LI8.mk (i + 1) Tc _ (ds) _ _ _ _ _ _ _ _ _ _ _ _ _ _ _ _ _ _ _ _ _ _ _ _ _ _ _ _ _ _ _ _ _ _ _ _ _ _ _ _ _ _ _ _ _ _ _ _ _ _ _ _ _ _ _ _ _ _ _ _ _ _ _ _ _ _ _ _ _ _ _ _ _ _ _ _ _ _ _ _ _ _ _ _ _ _ _ _ _ _ _ _ _ _ _ _ _ _ _ _ _ _ _ _ _ _ _ _ _ _ _ _ _ _ _ _ _ _ _ _ _ _ _ _ _ _ _ _ _ _ _ _ _ _ _ _ _ _ (by have := unhide HLT; omega) (Nat.le_refl _) (hide ⟨unhide LN, by have h1 := unhide HDR; rw [← unhide HF, ← unhide HV] at h1; have h2 := (unhide HI).2.1; rw [h1, abs_len] at h2; exact h2, by have h1 := act_last x (abs T1); rw [← unhide HF] at h1; have h2 : Tc.last ≤ T1.last + 201 := h1; have h3 := (unhide HI).2.2.1; omega, (unhide HI).2.2.2.1, (unhide HI).2.2.2.2.1, by have := (unhide HI).2.2.2.2.2; simp; omega⟩))))
      · go_wp2_with (first | go_skip | ((with_reducible show wpList _ _ _ _ _ _); first | ((refine vl (by rfl) (ex_lenG 22 42 Tryd.underlying22 rfl rfl) ?_); simp only [Act.put, n1, n2, n3]) | ((refine vl (by rfl) (ex_load1 4 Tryd.isAgg4 rfl rfl ((unhide LL).get 1 rfl) rfl) ?_); simp only [Act.put, n1, n2, n3]) | ((refine vl (by rfl) (ex_load1 29 Tryd.isAgg29 rfl rfl ((unhide LL).get 0 rfl) rfl) ?_); simp only [Act.put, n1, n2, n3])))
        have HCM := hide (compact18 T1 _ (unhide LL).ri.is (by have := unhide HLT1; omega))
        rw [(unhide LL).ri.tq] at HCM
        refine (unhide HCM).mono ?_
        rintro _ Y ⟨rfl, mm, rv, hT2, hf2, hb2⟩
        have HA0 : abs (T1.packed mm rv) = abs T1 := abs_same (TT.packed_live _ _ _) rfl
        have HA1 : (T1.packed mm rv).last = T1.last := rfl
        replace LL := hide ((unhide LL).step hT2 rfl (hf2.mono (fun b hb => .inl (by obtain rfl : b = T.t := (by simpa using hb); rw [← (unhide LL).ri.tq]; simp [TT.blocks]))) hb2)
        clear hT2 hf2 hb2 HCM
        obtain ⟨Tc, HTC, HLC, LL2⟩ : ∃ Tc, Hid (abs Tc = abs T1) ∧ Hid (Tc.last = T1.last) ∧ Hid (RJ w _ T Tc [(B3, [.pointer (some ⟨T.t, 0, none⟩)]), (B5, [.bool true])] tv xs ds) := ⟨_, hide HA0, hide HA1, LL⟩
        replace HLT1 : Hid (Tc.last < 99000) := hide (by have h1 := unhide HLC; have h2 := unhide HLT1; omega)
        clear LL HA0 HA1
        have LL := LL2
        clear LL2
        by_cases h1 : x.kd = 1
        · have he1 : (x.kd == 1) = true := by simp [h1]
          have HAC : Hid (actA x (abs T1) = ((abs T1).put x.k x.d, errOf x.k)) := hide (by unfold actA; rw [if_pos h1])
          clear h1
          go_wp2_with (first | go_skip | ((with_reducible show wpList _ _ _ _ _ _); first | ((refine vl (by rfl) (ex_load1 29 Tryd.isAgg29 rfl rfl ((unhide LL).get 0 rfl) rfl) ?_); simp only [Act.put, n1, n2, n3]) | ((refine vl (by rfl) (ex_load1 4 Tryd.isAgg4 rfl rfl ((unhide LL).get 1 rfl) rfl) ?_); simp only [Act.put, n1, n2, n3]) | ((refine vl (by rfl) (ex_load1 3 Tryd.isAgg3 rfl rfl ((unhide LL).get 2 rfl) rfl) ?_); simp only [Act.put, n1, n2, n3]) | ((refine vl (by rfl) (ex_loadN (vs := x.k.cs) 34 2 row33x siz33 rfl rfl ((unhide LL).get 2 rfl) rfl rfl) ?_); simp only [Act.put, n1, n2, n3]) | ((refine vl (by rfl) (ex_loadN (vs := x.d.cs) 40 18 row39 siz39 rfl rfl ((unhide LL).get 2 rfl) rfl rfl) ?_); simp only [Act.put, n1, n2, n3]) | ((refine vl (by rfl) (ex_lenG 22 42 Tryd.underlying22 rfl rfl) ?_); simp only [Act.put, n1, n2, n3]) | ((refine vl (by rfl) (ex_indexG 22 23 i und22 idx22 rfl rfl rfl (unhide HLT)) ?_); simp only [Act.put, n1, n2, n3]) | ((refine vl (by rfl) (ex_loadR (vs := actCs x.kd x.k x.d x.n (.slice IA x.il.length ic)) 42 23 row41 siz41 rfl rfl (unhide HA2 _ (unhide LL).fr) rfl) ?_); simp only [Act.put, n1, n2, n3]) | ((refine alK (v := .agg (zeroAct).toArray) 42 (zeroAct) (by rfl) rfl (fun w => by kernel_rfl) rfl (Nat.succ_pos _) (unhide LL) ?_); intro X10 B10 hB10 L10; replace hB10 := hide hB10; replace LL := hide L10; clear L10; simp only [Act.put, n1, n2, n3]) | ((refine stK (vs := actCs x.kd x.k x.d x.n (.slice IA x.il.length ic)) 2 42 (by rfl) rfl rfl rfl rfl (act_one _ _ _ _ _ _ _) siz41 (unhide LL) rfl (by simp [cput, zeroAct, actCs, zeroK, zeroD, KK.cs, DD.cs, VV.cs]) (unhide hB10) ?_); intro X12 L12; replace LL := hide L12; clear L12; simp only [Act.put, n1, n2, n3]) | ((refine alK (v := .int .i64 0) 3 ([.int .i64 0]) (by rfl) rfl (fun w => by kernel_rfl) rfl (Nat.succ_pos _) (unhide LL) ?_); intro X11 B11 hB11 L11; replace hB11 := hide hB11; replace LL := hide L11; clear L11; simp only [Act.put, n1, n2, n3]) | ((refine stK (vs := [.int .i64 0]) 3 3 (by rfl) rfl rfl rfl rfl (by simp [Value.oneCell']) siz3 (unhide LL) rfl (by simp [cput, zeroAct, actCs, zeroK, zeroD, KK.cs, DD.cs, VV.cs]) (unhide hB11) ?_); intro X13 L13; replace LL := hide L13; clear L13; simp only [Act.put, n1, n2, n3])))
          have HPT := hide (put12e Tc x.k x.d _ (unhide LL).ri.is (tabs_fr (unhide HU) (unhide LL).fr (unhide H6)) (unhide HOK) (by have := unhide HLT1; omega) (fun b hb => by rcases (unhide LL).ri.new b hb with h | h; exact unhide H6 b h; have := tabs_size (unhide HU); omega))
          rw [(unhide LL).ri.tq] at HPT
          refine (unhide HPT).mono ?_
          rintro _ Y ⟨rfl, T2, hT2, ht2, hf2, hb2, hp2⟩
          have HF : Hid (abs T2 = (actA x (abs T1)).1) := hide (by rw [unhide HAC]; rw [abs_put (unhide LL).ri.is hp2, unhide HTC])
          have HV : Hid (errOf x.k = (actA x (abs T1)).2) := hide (by rw [unhide HAC])
          clear hp2 HPT
          replace LL := hide ((unhide LL).step hT2 (ht2.trans (unhide LL).ri.tq.symm) hf2 hb2)
          clear hT2 ht2 hf2 hb2
          go_wp2_with fail
          refine (num11 (errOf x.k) (errOf_le x.k) _).mono ?_
          rintro _ Y2 ⟨rfl, hbn⟩
          replace LL := hide ((unhide LL).on hbn)
          clear hbn
          go_wp2_with (first | go_skip | ((with_reducible show wpList _ _ _ _ _ _); first | ((refine stK (vs := [.int .i64 (errOf x.k)]) 3 3 (by rfl) rfl rfl rfl rfl (by simp [Value.oneCell']) siz3 (unhide LL) rfl (by simp [cput, zeroAct, actCs, zeroK, zeroD, KK.cs, DD.cs, VV.cs]) (unhide hB11) ?_); intro X14 L14; replace LL := hide L14; clear L14; simp only [Act.put, n1, n2, n3])))
          obtain ⟨LB, hLB, hLL⟩ : ∃ LB, LB = _ ∧ RJ w _ T T2 LB tv xs ds := ⟨_, rfl, unhide LL⟩
          have hg3 : LB[0]? = some (B3, [.pointer (some ⟨T.t, 0, none⟩)]) := by rw [hLB]; rfl
          have hg11 : LB[3]? = some (B11, [.int .i64 (errOf x.k)]) := by rw [hLB]; rfl
          have hq0 := hLL.drew
          refine wp_region_held_drew (P := Tryd.prog) (S := fun X => RI w X T T2 LB) (by kernel_rfl) hq0.ri (fun hS0 => ?_)
          refine gsem 0 (some 138) (tv) rfl (by kernel_rfl) (by kernel_rfl) (by kernel_rfl) (fun _ _ _ h => h) (by kernel_rfl) (by kernel_rfl) (fun _ _ => by kernel_rfl) hq0.ri ?_
          simp only [Act.put, n1, n2, n3]
          refine gsem 1 (some 139) (.int .i64 (errOf x.k)) rfl (by kernel_rfl) (by kernel_rfl) (by kernel_rfl) (fun _ _ _ h => h) (by kernel_rfl) (by kernel_rfl) (fun X hX => ex_load1 3 Tryd.isAgg3 rfl rfl (hX.hq.get 3 hg11) rfl) hq0.ri ?_
          simp only [Act.put, n1, n2, n3]
          refine gsem 2 (some 140) (.pointer (some ⟨T.t, 0, none⟩)) rfl (by kernel_rfl) (by kernel_rfl) (by kernel_rfl) (fun _ _ _ h => h) (by kernel_rfl) (by kernel_rfl) (fun X hX => ex_load1 29 Tryd.isAgg29 rfl rfl (hX.hq.get 0 hg3) rfl) hq0.ri ?_
          simp only [Act.put, n1, n2, n3]
          have HLN := hide (len30 T2 _ hq0.ri.is)
          rw [hq0.ri.tq] at HLN
          refine wpAnyH_ready (rs := [3]) (by kernel_rfl) (by simp) (gcallR 3 (some 141) rfl (by kernel_rfl) (by kernel_rfl) (by kernel_rfl) (unhide HLN) ?_ AllReadyH.nil)
          rintro _ Y3 ⟨rfl, hY3⟩
          subst hY3
          refine ⟨_, rfl, hq0.ri, ?_⟩
          simp only [Act.put, n1, n2, n3]
          have hI4 := hq0.fresh ([.int .i64 (errOf x.k), .int .i64 (T2.live.length : Nat)]) 3
          have hb4 := hq0.bl (Obj.cells ([.int .i64 (errOf x.k), .int .i64 (T2.live.length : Nat)]).toArray 3)
          refine wpAnyH_ready (rs := [4]) (by kernel_rfl) (by simp) (gval 4 (some 142) rfl (by kernel_rfl) (by kernel_rfl) (ex_build26 (errOf x.k) (T2.live.length : Nat) rfl rfl rfl) (hq0.ri.on hb4) ?_ AllReadyH.nil)
          simp only [Act.put, n1, n2, n3]
          have hq4 := hq0.on hb4
          refine wpAnyH_ready (rs := [5]) (by kernel_rfl) (by simp) (gappF (base := w.heap.size) (size := 1) (bytes := 8) (k := xs.length) (m := 2) (news := [.int .i64 (errOf x.k), .int .i64 (T2.live.length : Nat)]) (xs := xs.map (fun z => .int .i64 z)) (v := tv) 5 (some 143) rfl (by kernel_rfl) (by kernel_rfl) rfl rfl rfl Tryd.underlying26 inf3 rfl (by decide) hq4.own hI4 rfl (by simp [Value.oneCell']) (by have := unhide HXS; omega) (by decide) hq4.fr.size (fun X hg => hq4.ri_grown hg) ?_ AllReadyH.nil)
          intro A6 c6 X6 hO6 hg6 hF6
          simp only [Act.put, n1, n2, n3]
          have hq6 := hq4.app (ys := [errOf x.k, (T2.live.length : Int)]) (tv2 := .slice A6 (xs.length + 2) c6) (by simpa using hO6) hg6 hF6
          refine gsem 6 (some 8) (.slice A6 (xs.length + 2) c6) rfl (by kernel_rfl) (by kernel_rfl) (by kernel_rfl) (fun _ _ _ h => h) (by kernel_rfl) (by kernel_rfl) (fun _ _ => by kernel_rfl) hq6.ri ?_
          simp only [Act.put, n1, n2, n3]
          refine wpAnyH_done (by kernel_rfl) ?_ _
          try simp only [Act.put, n1, n2, n3]
          rw [hLB] at hq6
          have LN : Hid (RJ w X6 T T2 [(B3, [.pointer (some ⟨T.t, 0, none⟩)]), (B5, [.bool true])] (.slice A6 (xs.length + 2) c6) (xs ++ [errOf x.k, (T2.live.length : Int)]) (ds)) := hide (RJ.left (L := [(B3, [.pointer (some ⟨T.t, 0, none⟩)]), (B5, [.bool true])]) (M := _) hq6)
          clear hq0 hq4 hq6 hLL hLB hg3 hg11 hI4 hb4 hO6 hg6 hF6 hS0 HLN LL
          go_wp2
          rw [show ((i : Int) + 1) = ((i + 1 : Nat) : Int) from rfl]
          exact (Handed.intro (l.length - (i + 1)) (by have := unhide HLT; omega) (hJ _ _ _ (LI8.mk (i + 1) T2 _ (ds) _ _ _ _ _ _ _ _ _ _ _ _ _ _ _ _ _ _ _ _ _ _ _ _ _ _ _ _ _ _ _ _ _ _ _ _ _ _ _ _ _ _ _ _ _ _ _ _ _ _ _ _ _ _ _ _ _ _ _ _ _ _ _ _ _ _ _ _ _ _ _ _ _ _ _ _ _ _ _ _ _ _ _ _ _ _ _ _ _ _ _ _ _ _ _ _ _ _ _ _ _ _ _ _ _ _ _ _ _ _ _ _ _ _ _ _ _ _ _ _ _ _ _ _ _ _ _ _ _ _ _ _ _ _ _ _ _ _ (by have := unhide HLT; omega) (Nat.le_refl _) (hide ⟨unhide LN, by have h1 := unhide HDR; rw [← unhide HF, ← unhide HV] at h1; have h2 := (unhide HI).2.1; rw [h1, abs_len] at h2; exact h2, by have h1 := act_last x (abs T1); rw [← unhide HF] at h1; have h2 : T2.last ≤ T1.last + 201 := h1; have h3 := (unhide HI).2.2.1; omega, (unhide HI).2.2.2.1, (unhide HI).2.2.2.2.1, by have := (unhide HI).2.2.2.2.2; simp; omega⟩))))
        · by_cases h2 : x.kd = 2
          · have he2 : (x.kd == 2) = true := by simp [h2]
            have he1 : (x.kd == 1) = false := by simp [h1]
            have HAC : Hid (actA x (abs T1) = ((abs T1).del x.k, if (abs T1).has x.k then 1 else 0)) := hide (by unfold actA; rw [if_neg h1, if_pos h2])
            clear h1 h2
            go_wp2_with (first | go_skip | ((with_reducible show wpList _ _ _ _ _ _); first | ((refine vl (by rfl) (ex_load1 29 Tryd.isAgg29 rfl rfl ((unhide LL).get 0 rfl) rfl) ?_); simp only [Act.put, n1, n2, n3]) | ((refine vl (by rfl) (ex_load1 4 Tryd.isAgg4 rfl rfl ((unhide LL).get 1 rfl) rfl) ?_); simp only [Act.put, n1, n2, n3]) | ((refine vl (by rfl) (ex_load1 3 Tryd.isAgg3 rfl rfl ((unhide LL).get 2 rfl) rfl) ?_); simp only [Act.put, n1, n2, n3]) | ((refine vl (by rfl) (ex_loadN (vs := x.k.cs) 34 2 row33x siz33 rfl rfl ((unhide LL).get 2 rfl) rfl rfl) ?_); simp only [Act.put, n1, n2, n3]) | ((refine vl (by rfl) (ex_loadN (vs := x.d.cs) 40 18 row39 siz39 rfl rfl ((unhide LL).get 2 rfl) rfl rfl) ?_); simp only [Act.put, n1, n2, n3]) | ((refine vl (by rfl) (ex_lenG 22 42 Tryd.underlying22 rfl rfl) ?_); simp only [Act.put, n1, n2, n3]) | ((refine vl (by rfl) (ex_indexG 22 23 i und22 idx22 rfl rfl rfl (unhide HLT)) ?_); simp only [Act.put, n1, n2, n3]) | ((refine vl (by rfl) (ex_loadR (vs := actCs x.kd x.k x.d x.n (.slice IA x.il.length ic)) 42 23 row41 siz41 rfl rfl (unhide HA2 _ (unhide LL).fr) rfl) ?_); simp only [Act.put, n1, n2, n3]) | ((refine alK (v := .agg (zeroAct).toArray) 42 (zeroAct) (by rfl) rfl (fun w => by kernel_rfl) rfl (Nat.succ_pos _) (unhide LL) ?_); intro X10 B10 hB10 L10; replace hB10 := hide hB10; replace LL := hide L10; clear L10; simp only [Act.put, n1, n2, n3]) | ((refine stK (vs := actCs x.kd x.k x.d x.n (.slice IA x.il.length ic)) 2 42 (by rfl) rfl rfl rfl rfl (act_one _ _ _ _ _ _ _) siz41 (unhide LL) rfl (by simp [cput, zeroAct, actCs, zeroK, zeroD, KK.cs, DD.cs, VV.cs]) (unhide hB10) ?_); intro X12 L12; replace LL := hide L12; clear L12; simp only [Act.put, n1, n2, n3]) | ((refine alK (v := .int .i64 0) 3 ([.int .i64 0]) (by rfl) rfl (fun w => by kernel_rfl) rfl (Nat.succ_pos _) (unhide LL) ?_); intro X11 B11 hB11 L11; replace hB11 := hide hB11; replace LL := hide L11; clear L11; simp only [Act.put, n1, n2, n3]) | ((refine stK (vs := [.int .i64 0]) 3 3 (by rfl) rfl rfl rfl rfl (by simp [Value.oneCell']) siz3 (unhide LL) rfl (by simp [cput, zeroAct, actCs, zeroK, zeroD, KK.cs, DD.cs, VV.cs]) (unhide hB11) ?_); intro X13 L13; replace LL := hide L13; clear L13; simp only [Act.put, n1, n2, n3])))
            have HDL := hide (deleteN Tc x.k _ (unhide LL).ri.is (unhide HOK) (by have := unhide HLT1; omega))
            rw [(unhide LL).ri.tq] at HDL
            have hhas : (abs T1).has x.k = (Tc.find x.k).isSome := by rw [← unhide HTC, abs_has]
            obtain ⟨fb, hfb⟩ : ∃ fb, (Tc.find x.k).isSome = fb := ⟨_, rfl⟩
            rw [hfb] at HDL hhas
            clear hfb
            refine (unhide HDL).mono ?_
            rintro _ Y ⟨rfl, T2, hT2, ht2, hn2, hf2, hb2, hl2, -⟩
            have HF : Hid (abs T2 = (actA x (abs T1)).1) := hide (by rw [unhide HAC]; rw [abs_del hl2 hn2, unhide HTC])
            clear hl2 hn2 HDL
            replace LL := hide ((unhide LL).step hT2 (ht2.trans (unhide LL).ri.tq.symm) hf2 hb2)
            clear hT2 ht2 hf2 hb2
            cases fb
            · have HV : Hid ((0 : Int) = (actA x (abs T1)).2) := hide (by rw [unhide HAC]; simp [hhas])
              clear hhas
              go_wp2_with fail
              obtain ⟨LB, hLB, hLL⟩ : ∃ LB, LB = _ ∧ RJ w _ T T2 LB tv xs ds := ⟨_, rfl, unhide LL⟩
              have hg3 : LB[0]? = some (B3, [.pointer (some ⟨T.t, 0, none⟩)]) := by rw [hLB]; rfl
              have hg11 : LB[3]? = some (B11, [.int .i64 (0)]) := by rw [hLB]; rfl
              have hq0 := hLL.drew
              refine wp_region_held_drew (P := Tryd.prog) (S := fun X => RI w X T T2 LB) (by kernel_rfl) hq0.ri (fun hS0 => ?_)
              refine gsem 0 (some 138) (tv) rfl (by kernel_rfl) (by kernel_rfl) (by kernel_rfl) (fun _ _ _ h => h) (by kernel_rfl) (by kernel_rfl) (fun _ _ => by kernel_rfl) hq0.ri ?_
              simp only [Act.put, n1, n2, n3]
              refine gsem 1 (some 139) (.int .i64 (0)) rfl (by kernel_rfl) (by kernel_rfl) (by kernel_rfl) (fun _ _ _ h => h) (by kernel_rfl) (by kernel_rfl) (fun X hX => ex_load1 3 Tryd.isAgg3 rfl rfl (hX.hq.get 3 hg11) rfl) hq0.ri ?_
              simp only [Act.put, n1, n2, n3]
              refine gsem 2 (some 140) (.pointer (some ⟨T.t, 0, none⟩)) rfl (by kernel_rfl) (by kernel_rfl) (by kernel_rfl) (fun _ _ _ h => h) (by kernel_rfl) (by kernel_rfl) (fun X hX => ex_load1 29 Tryd.isAgg29 rfl rfl (hX.hq.get 0 hg3) rfl) hq0.ri ?_
              simp only [Act.put, n1, n2, n3]
              have HLN := hide (len30 T2 _ hq0.ri.is)
              rw [hq0.ri.tq] at HLN
              refine wpAnyH_ready (rs := [3]) (by kernel_rfl) (by simp) (gcallR 3 (some 141) rfl (by kernel_rfl) (by kernel_rfl) (by kernel_rfl) (unhide HLN) ?_ AllReadyH.nil)
              rintro _ Y3 ⟨rfl, hY3⟩
              subst hY3
              refine ⟨_, rfl, hq0.ri, ?_⟩
              simp only [Act.put, n1, n2, n3]
              have hI4 := hq0.fresh ([.int .i64 (0), .int .i64 (T2.live.length : Nat)]) 3
              have hb4 := hq0.bl (Obj.cells ([.int .i64 (0), .int .i64 (T2.live.length : Nat)]).toArray 3)
              refine wpAnyH_ready (rs := [4]) (by kernel_rfl) (by simp) (gval 4 (some 142) rfl (by kernel_rfl) (by kernel_rfl) (ex_build26 (0) (T2.live.length : Nat) rfl rfl rfl) (hq0.ri.on hb4) ?_ AllReadyH.nil)
              simp only [Act.put, n1, n2, n3]
              have hq4 := hq0.on hb4
              refine wpAnyH_ready (rs := [5]) (by kernel_rfl) (by simp) (gappF (base := w.heap.size) (size := 1) (bytes := 8) (k := xs.length) (m := 2) (news := [.int .i64 (0), .int .i64 (T2.live.length : Nat)]) (xs := xs.map (fun z => .int .i64 z)) (v := tv) 5 (some 143) rfl (by kernel_rfl) (by kernel_rfl) rfl rfl rfl Tryd.underlying26 inf3 rfl (by decide) hq4.own hI4 rfl (by simp [Value.oneCell']) (by have := unhide HXS; omega) (by decide) hq4.fr.size (fun X hg => hq4.ri_grown hg) ?_ AllReadyH.nil)
              intro A6 c6 X6 hO6 hg6 hF6
              simp only [Act.put, n1, n2, n3]
              have hq6 := hq4.app (ys := [0, (T2.live.length : Int)]) (tv2 := .slice A6 (xs.length + 2) c6) (by simpa using hO6) hg6 hF6
              refine gsem 6 (some 8) (.slice A6 (xs.length + 2) c6) rfl (by kernel_rfl) (by kernel_rfl) (by kernel_rfl) (fun _ _ _ h => h) (by kernel_rfl) (by kernel_rfl) (fun _ _ => by kernel_rfl) hq6.ri ?_
              simp only [Act.put, n1, n2, n3]
              refine wpAnyH_done (by kernel_rfl) ?_ _
              try simp only [Act.put, n1, n2, n3]
              rw [hLB] at hq6
              have LN : Hid (RJ w X6 T T2 [(B3, [.pointer (some ⟨T.t, 0, none⟩)]), (B5, [.bool true])] (.slice A6 (xs.length + 2) c6) (xs ++ [0, (T2.live.length : Int)]) (ds)) := hide (RJ.left (L := [(B3, [.pointer (some ⟨T.t, 0, none⟩)]), (B5, [.bool true])]) (M := _) hq6)
              clear hq0 hq4 hq6 hLL hLB hg3 hg11 hI4 hb4 hO6 hg6 hF6 hS0 HLN LL
              go_wp2
              rw [show ((i : Int) + 1) = ((i + 1 : Nat) : Int) from rfl]
              exact (Handed.intro (l.length - (i + 1)) (by have := unhide HLT; omega) (hJ _ _ _ (LI8.mk (i + 1) T2 _ (ds) _ _ _ _ _ _ _ _ _ _ _ _ _ _ _ _ _ _ _ _ _ _ _ _ _ _ _ _ _ _ _ _ _ _ _ _ _ _ _ _ _ _ _ _ _ _ _ _ _ _ _ _ _ _ _ _ _ _ _ _ _ _ _ _ _ _ _ _ _ _ _ _ _ _ _ _ _ _ _ _ _ _ _ _ _ _ _ _ _ _ _ _ _ _ _ _ _ _ _ _ _ _ _ _ _ _ _ _ _ _ _ _ _ _ _ _ _ _ _ _ _ _ _ _ _ _ _ _ _ _ _ _ _ _ _ _ _ _ (by have := unhide HLT; omega) (Nat.le_refl _) (hide ⟨unhide LN, by have h1 := unhide HDR; rw [← unhide HF, ← unhide HV] at h1; have h2 := (unhide HI).2.1; rw [h1, abs_len] at h2; exact h2, by have h1 := act_last x (abs T1); rw [← unhide HF] at h1; have h2 : T2.last ≤ T1.last + 201 := h1; have h3 := (unhide HI).2.2.1; omega, (unhide HI).2.2.2.1, (unhide HI).2.2.2.2.1, by have := (unhide HI).2.2.2.2.2; simp; omega⟩))))
            · have HV : Hid ((1 : Int) = (actA x (abs T1)).2) := hide (by rw [unhide HAC]; simp [hhas])
              clear hhas
              go_wp2_with (first | go_skip | ((with_reducible show wpList _ _ _ _ _ _); first | ((refine stK (vs := [.int .i64 1]) 3 3 (by rfl) rfl rfl rfl rfl (by simp [Value.oneCell']) siz3 (unhide LL) rfl (by simp [cput, zeroAct, actCs, zeroK, zeroD, KK.cs, DD.cs, VV.cs]) (unhide hB11) ?_); intro X14 L14; replace LL := hide L14; clear L14; simp only [Act.put, n1, n2, n3])))
              obtain ⟨LB, hLB, hLL⟩ : ∃ LB, LB = _ ∧ RJ w _ T T2 LB tv xs ds := ⟨_, rfl, unhide LL⟩
              have hg3 : LB[0]? = some (B3, [.pointer (some ⟨T.t, 0, none⟩)]) := by rw [hLB]; rfl
              have hg11 : LB[3]? = some (B11, [.int .i64 (1)]) := by rw [hLB]; rfl
              have hq0 := hLL.drew
              refine wp_region_held_drew (P := Tryd.prog) (S := fun X => RI w X T T2 LB) (by kernel_rfl) hq0.ri (fun hS0 => ?_)
              refine gsem 0 (some 138) (tv) rfl (by kernel_rfl) (by kernel_rfl) (by kernel_rfl) (fun _ _ _ h => h) (by kernel_rfl) (by kernel_rfl) (fun _ _ => by kernel_rfl) hq0.ri ?_
              simp only [Act.put, n1, n2, n3]
              refine gsem 1 (some 139) (.int .i64 (1)) rfl (by kernel_rfl) (by kernel_rfl) (by kernel_rfl) (fun _ _ _ h => h) (by kernel_rfl) (by kernel_rfl) (fun X hX => ex_load1 3 Tryd.isAgg3 rfl rfl (hX.hq.get 3 hg11) rfl) hq0.ri ?_
              simp only [Act.put, n1, n2, n3]
              refine gsem 2 (some 140) (.pointer (some ⟨T.t, 0, none⟩)) rfl (by kernel_rfl) (by kernel_rfl) (by kernel_rfl) (fun _ _ _ h => h) (by kernel_rfl) (by kernel_rfl) (fun X hX => ex_load1 29 Tryd.isAgg29 rfl rfl (hX.hq.get 0 hg3) rfl) hq0.ri ?_
              simp only [Act.put, n1, n2, n3]
              have HLN := hide (len30 T2 _ hq0.ri.is)
              rw [hq0.ri.tq] at HLN
              refine wpAnyH_ready (rs := [3]) (by kernel_rfl) (by simp) (gcallR 3 (some 141) rfl (by kernel_rfl) (by kernel_rfl) (by kernel_rfl) (unhide HLN) ?_ AllReadyH.nil)
              rintro _ Y3 ⟨rfl, hY3⟩
              subst hY3
              refine ⟨_, rfl, hq0.ri, ?_⟩
              simp only [Act.put, n1, n2, n3]
              have hI4 := hq0.fresh ([.int .i64 (1), .int .i64 (T2.live.length : Nat)]) 3
              have hb4 := hq0.bl (Obj.cells ([.int .i64 (1), .int .i64 (T2.live.length : Nat)]).toArray 3)
              refine wpAnyH_ready (rs := [4]) (by kernel_rfl) (by simp) (gval 4 (some 142) rfl (by kernel_rfl) (by kernel_rfl) (ex_build26 (1) (T2.live.length : Nat) rfl rfl rfl) (hq0.ri.on hb4) ?_ AllReadyH.nil)
              simp only [Act.put, n1, n2, n3]
              have hq4 := hq0.on hb4
              refine wpAnyH_ready (rs := [5]) (by kernel_rfl) (by simp) (gappF (base := w.heap.size) (size := 1) (bytes := 8) (k := xs.length) (m := 2) (news := [.int .i64 (1), .int .i64 (T2.live.length : Nat)]) (xs := xs.map (fun z => .int .i64 z)) (v := tv) 5 (some 143) rfl (by kernel_rfl) (by kernel_rfl) rfl rfl rfl Tryd.underlying26 inf3 rfl (by decide) hq4.own hI4 rfl (by simp [Value.oneCell']) (by have := unhide HXS; omega) (by decide) hq4.fr.size (fun X hg => hq4.ri_grown hg) ?_ AllReadyH.nil)
              intro A6 c6 X6 hO6 hg6 hF6
              simp only [Act.put, n1, n2, n3]
              have hq6 := hq4.app (ys := [1, (T2.live.length : Int)]) (tv2 := .slice A6 (xs.length + 2) c6) (by simpa using hO6) hg6 hF6
              refine gsem 6 (some 8) (.slice A6 (xs.length + 2) c6) rfl (by kernel_rfl) (by kernel_rfl) (by kernel_rfl) (fun _ _ _ h => h) (by kernel_rfl) (by kernel_rfl) (fun _ _ => by kernel_rfl) hq6.ri ?_
              simp only [Act.put, n1, n2, n3]
              refine wpAnyH_done (by kernel_rfl) ?_ _
              try simp only [Act.put, n1, n2, n3]
              rw [hLB] at hq6
              have LN : Hid (RJ w X6 T T2 [(B3, [.pointer (some ⟨T.t, 0, none⟩)]), (B5, [.bool true])] (.slice A6 (xs.length + 2) c6) (xs ++ [1, (T2.live.length : Int)]) (ds)) := hide (RJ.left (L := [(B3, [.pointer (some ⟨T.t, 0, none⟩)]), (B5, [.bool true])]) (M := _) hq6)
              clear hq0 hq4 hq6 hLL hLB hg3 hg11 hI4 hb4 hO6 hg6 hF6 hS0 HLN LL
              go_wp2
              rw [show ((i : Int) + 1) = ((i + 1 : Nat) : Int) from rfl]
              exact (Handed.intro (l.length - (i + 1)) (by have := unhide HLT; omega) (hJ _ _ _ (LI8.mk (i + 1) T2 _ (ds) _ _ _ _ _ _ _ _ _ _ _ _ _ _ _ _ _ _ _ _ _ _ _ _ _ _ _ _ _ _ _ _ _ _ _ _ _ _ _ _ _ _ _ _ _ _ _ _ _ _ _ _ _ _ _ _ _ _ _ _ _ _ _ _ _ _ _ _ _ _ _ _ _ _ _ _ _ _ _ _ _ _ _ _ _ _ _ _ _ _ _ _ _ _ _ _ _ _ _ _ _ _ _ _ _ _ _ _ _ _ _ _ _ _ _ _ _ _ _ _ _ _ _ _ _ _ _ _ _ _ _ _ _ _ _ _ _ _ (by have := unhide HLT; omega) (Nat.le_refl _) (hide ⟨unhide LN, by have h1 := unhide HDR; rw [← unhide HF, ← unhide HV] at h1; have h2 := (unhide HI).2.1; rw [h1, abs_len] at h2; exact h2, by have h1 := act_last x (abs T1); rw [← unhide HF] at h1; have h2 : T2.last ≤ T1.last + 201 := h1; have h3 := (unhide HI).2.2.1; omega, (unhide HI).2.2.2.1, (unhide HI).2.2.2.2.1, by have := (unhide HI).2.2.2.2.2; simp; omega⟩))))
          · by_cases h3 : x.kd = 3
            · have he3 : (x.kd == 3) = true := by simp [h3]
              have he1 : (x.kd == 1) = false := by simp [h1]
              have he2 : (x.kd == 2) = false := by simp [h2]
              have HAC : Hid (actA x (abs T1) = (⟨[], (abs T1).last⟩, 0)) := hide (by unfold actA; rw [if_neg h1, if_neg h2, if_pos h3])
              clear h1 h2 h3
              go_wp2_with (first | go_skip | ((with_reducible show wpList _ _ _ _ _ _); first | ((refine vl (by rfl) (ex_load1 29 Tryd.isAgg29 rfl rfl ((unhide LL).get 0 rfl) rfl) ?_); simp only [Act.put, n1, n2, n3]) | ((refine vl (by rfl) (ex_load1 4 Tryd.isAgg4 rfl rfl ((unhide LL).get 1 rfl) rfl) ?_); simp only [Act.put, n1, n2, n3]) | ((refine vl (by rfl) (ex_load1 3 Tryd.isAgg3 rfl rfl ((unhide LL).get 2 rfl) rfl) ?_); simp only [Act.put, n1, n2, n3]) | ((refine vl (by rfl) (ex_loadN (vs := x.k.cs) 34 2 row33x siz33 rfl rfl ((unhide LL).get 2 rfl) rfl rfl) ?_); simp only [Act.put, n1, n2, n3]) | ((refine vl (by rfl) (ex_loadN (vs := x.d.cs) 40 18 row39 siz39 rfl rfl ((unhide LL).get 2 rfl) rfl rfl) ?_); simp only [Act.put, n1, n2, n3]) | ((refine vl (by rfl) (ex_lenG 22 42 Tryd.underlying22 rfl rfl) ?_); simp only [Act.put, n1, n2, n3]) | ((refine vl (by rfl) (ex_indexG 22 23 i und22 idx22 rfl rfl rfl (unhide HLT)) ?_); simp only [Act.put, n1, n2, n3]) | ((refine vl (by rfl) (ex_loadR (vs := actCs x.kd x.k x.d x.n (.slice IA x.il.length ic)) 42 23 row41 siz41 rfl rfl (unhide HA2 _ (unhide LL).fr) rfl) ?_); simp only [Act.put, n1, n2, n3]) | ((refine alK (v := .agg (zeroAct).toArray) 42 (zeroAct) (by rfl) rfl (fun w => by kernel_rfl) rfl (Nat.succ_pos _) (unhide LL) ?_); intro X10 B10 hB10 L10; replace hB10 := hide hB10; replace LL := hide L10; clear L10; simp only [Act.put, n1, n2, n3]) | ((refine stK (vs := actCs x.kd x.k x.d x.n (.slice IA x.il.length ic)) 2 42 (by rfl) rfl rfl rfl rfl (act_one _ _ _ _ _ _ _) siz41 (unhide LL) rfl (by simp [cput, zeroAct, actCs, zeroK, zeroD, KK.cs, DD.cs, VV.cs]) (unhide hB10) ?_); intro X12 L12; replace LL := hide L12; clear L12; simp only [Act.put, n1, n2, n3]) | ((refine alK (v := .int .i64 0) 3 ([.int .i64 0]) (by rfl) rfl (fun w => by kernel_rfl) rfl (Nat.succ_pos _) (unhide LL) ?_); intro X11 B11 hB11 L11; replace hB11 := hide hB11; replace LL := hide L11; clear L11; simp only [Act.put, n1, n2, n3]) | ((refine stK (vs := [.int .i64 0]) 3 3 (by rfl) rfl rfl rfl rfl (by simp [Value.oneCell']) siz3 (unhide LL) rfl (by simp [cput, zeroAct, actCs, zeroK, zeroD, KK.cs, DD.cs, VV.cs]) (unhide hB11) ?_); intro X13 L13; replace LL := hide L13; clear L13; simp only [Act.put, n1, n2, n3])))
              have HCL := hide (clear16 Tc _ (unhide LL).ri.is)
              rw [(unhide LL).ri.tq] at HCL
              refine (unhide HCL).mono ?_
              rintro _ Y ⟨rfl, T2, hto, hl2⟩
              have hT2 := hto.is
              have ht2 : T2.t = T.t := hto.t.trans (unhide LL).ri.tq
              have hf2 := hto.fr
              have hb2 := hto.new
              have HF : Hid (abs T2 = (actA x (abs T1)).1) := hide (by rw [unhide HAC]; unfold abs; rw [hl2, hto.last]; have := congrArg AS.last (unhide HTC); simp [abs] at this ⊢; exact this)
              have HV : Hid ((0 : Int) = (actA x (abs T1)).2) := hide (by rw [unhide HAC])
              clear hto hl2 HCL
              replace LL := hide ((unhide LL).step hT2 (ht2.trans (unhide LL).ri.tq.symm) hf2 hb2)
              clear hT2 ht2 hf2 hb2
              go_wp2_with fail
              obtain ⟨LB, hLB, hLL⟩ : ∃ LB, LB = _ ∧ RJ w _ T T2 LB tv xs ds := ⟨_, rfl, unhide LL⟩
              have hg3 : LB[0]? = some (B3, [.pointer (some ⟨T.t, 0, none⟩)]) := by rw [hLB]; rfl
              have hg11 : LB[3]? = some (B11, [.int .i64 (0)]) := by rw [hLB]; rfl
              have hq0 := hLL.drew
              refine wp_region_held_drew (P := Tryd.prog) (S := fun X => RI w X T T2 LB) (by kernel_rfl) hq0.ri (fun hS0 => ?_)
              refine gsem 0 (some 138) (tv) rfl (by kernel_rfl) (by kernel_rfl) (by kernel_rfl) (fun _ _ _ h => h) (by kernel_rfl) (by kernel_rfl) (fun _ _ => by kernel_rfl) hq0.ri ?_
              simp only [Act.put, n1, n2, n3]
              refine gsem 1 (some 139) (.int .i64 (0)) rfl (by kernel_rfl) (by kernel_rfl) (by kernel_rfl) (fun _ _ _ h => h) (by kernel_rfl) (by kernel_rfl) (fun X hX => ex_load1 3 Tryd.isAgg3 rfl rfl (hX.hq.get 3 hg11) rfl) hq0.ri ?_
              simp only [Act.put, n1, n2, n3]
              refine gsem 2 (some 140) (.pointer (some ⟨T.t, 0, none⟩)) rfl (by kernel_rfl) (by kernel_rfl) (by kernel_rfl) (fun _ _ _ h => h) (by kernel_rfl) (by kernel_rfl) (fun X hX => ex_load1 29 Tryd.isAgg29 rfl rfl (hX.hq.get 0 hg3) rfl) hq0.ri ?_
              simp only [Act.put, n1, n2, n3]
              have HLN := hide (len30 T2 _ hq0.ri.is)
              rw [hq0.ri.tq] at HLN
              refine wpAnyH_ready (rs := [3]) (by kernel_rfl) (by simp) (gcallR 3 (some 141) rfl (by kernel_rfl) (by kernel_rfl) (by kernel_rfl) (unhide HLN) ?_ AllReadyH.nil)
              rintro _ Y3 ⟨rfl, hY3⟩
              subst hY3
              refine ⟨_, rfl, hq0.ri, ?_⟩
              simp only [Act.put, n1, n2, n3]
              have hI4 := hq0.fresh ([.int .i64 (0), .int .i64 (T2.live.length : Nat)]) 3
              have hb4 := hq0.bl (Obj.cells ([.int .i64 (0), .int .i64 (T2.live.length : Nat)]).toArray 3)
              refine wpAnyH_ready (rs := [4]) (by kernel_rfl) (by simp) (gval 4 (some 142) rfl (by kernel_rfl) (by kernel_rfl) (ex_build26 (0) (T2.live.length : Nat) rfl rfl rfl) (hq0.ri.on hb4) ?_ AllReadyH.nil)
              simp only [Act.put, n1, n2, n3]
              have hq4 := hq0.on hb4
              refine wpAnyH_ready (rs := [5]) (by kernel_rfl) (by simp) (gappF (base := w.heap.size) (size := 1) (bytes := 8) (k := xs.length) (m := 2) (news := [.int .i64 (0), .int .i64 (T2.live.length : Nat)]) (xs := xs.map (fun z => .int .i64 z)) (v := tv) 5 (some 143) rfl (by kernel_rfl) (by kernel_rfl) rfl rfl rfl Tryd.underlying26 inf3 rfl (by decide) hq4.own hI4 rfl (by simp [Value.oneCell']) (by have := unhide HXS; omega) (by decide) hq4.fr.size (fun X hg => hq4.ri_grown hg) ?_ AllReadyH.nil)
              intro A6 c6 X6 hO6 hg6 hF6
              simp only [Act.put, n1, n2, n3]
              have hq6 := hq4.app (ys := [0, (T2.live.length : Int)]) (tv2 := .slice A6 (xs.length + 2) c6) (by simpa using hO6) hg6 hF6
              refine gsem 6 (some 8) (.slice A6 (xs.length + 2) c6) rfl (by kernel_rfl) (by kernel_rfl) (by kernel_rfl) (fun _ _ _ h => h) (by kernel_rfl) (by kernel_rfl) (fun _ _ => by kernel_rfl) hq6.ri ?_
              simp only [Act.put, n1, n2, n3]
              refine wpAnyH_done (by kernel_rfl) ?_ _
              try simp only [Act.put, n1, n2, n3]
              rw [hLB] at hq6
              have LN : Hid (RJ w X6 T T2 [(B3, [.pointer (some ⟨T.t, 0, none⟩)]), (B5, [.bool true])] (.slice A6 (xs.length + 2) c6) (xs ++ [0, (T2.live.length : Int)]) (ds)) := hide (RJ.left (L := [(B3, [.pointer (some ⟨T.t, 0, none⟩)]), (B5, [.bool true])]) (M := _) hq6)
              clear hq0 hq4 hq6 hLL hLB hg3 hg11 hI4 hb4 hO6 hg6 hF6 hS0 HLN LL
              go_wp2
              rw [show ((i : Int) + 1) = ((i + 1 : Nat) : Int) from rfl]
              exact (Handed.intro (l.length - (i + 1)) (by have := unhide HLT; omega) (hJ _ _ _ (LI8.mk (i + 1) T2 _ (ds) _ _ _ _ _ _ _ _ _ _ _ _ _ _ _ _ _ _ _ _ _ _ _ _ _ _ _ _ _ _ _ _ _ _ _ _ _ _ _ _ _ _ _ _ _ _ _ _ _ _ _ _ _ _ _ _ _ _ _ _ _ _ _ _ _ _ _ _ _ _ _ _ _ _ _ _ _ _ _ _ _ _ _ _ _ _ _ _ _ _ _ _ _ _ _ _ _ _ _ _ _ _ _ _ _ _ _ _ _ _ _ _ _ _ _ _ _ _ _ _ _ _ _ _ _ _ _ _ _ _ _ _ _ _ _ _ _ _ (by have := unhide HLT; omega) (Nat.le_refl _) (hide ⟨unhide LN, by have h1 := unhide HDR; rw [← unhide HF, ← unhide HV] at h1; have h2 := (unhide HI).2.1; rw [h1, abs_len] at h2; exact h2, by have h1 := act_last x (abs T1); rw [← unhide HF] at h1; have h2 : T2.last ≤ T1.last + 201 := h1; have h3 := (unhide HI).2.2.1; omega, (unhide HI).2.2.2.1, (unhide HI).2.2.2.2.1, by have := (unhide HI).2.2.2.2.2; simp; omega⟩))))
            · by_cases h5 : x.kd = 5
              · have he5 : (x.kd == 5) = true := by simp [h5]
                have he1 : (x.kd == 1) = false := by simp [h1]
                have he2 : (x.kd == 2) = false := by simp [h2]
                have he3 : (x.kd == 3) = false := by simp [h3]
                have HAC : Hid (actA x (abs T1) = (abs T1, if (abs T1).has x.k then 1 else 0)) := hide (by unfold actA; rw [if_neg h1, if_neg h2, if_neg h3, if_pos h5])
                clear h1 h2 h3 h5
                go_wp2_with (first | go_skip | ((with_reducible show wpList _ _ _ _ _ _); first | ((refine vl (by rfl) (ex_load1 29 Tryd.isAgg29 rfl rfl ((unhide LL).get 0 rfl) rfl) ?_); simp only [Act.put, n1, n2, n3]) | ((refine vl (by rfl) (ex_load1 4 Tryd.isAgg4 rfl rfl ((unhide LL).get 1 rfl) rfl) ?_); simp only [Act.put, n1, n2, n3]) | ((refine vl (by rfl) (ex_load1 3 Tryd.isAgg3 rfl rfl ((unhide LL).get 2 rfl) rfl) ?_); simp only [Act.put, n1, n2, n3]) | ((refine vl (by rfl) (ex_loadN (vs := x.k.cs) 34 2 row33x siz33 rfl rfl ((unhide LL).get 2 rfl) rfl rfl) ?_); simp only [Act.put, n1, n2, n3]) | ((refine vl (by rfl) (ex_loadN (vs := x.d.cs) 40 18 row39 siz39 rfl rfl ((unhide LL).get 2 rfl) rfl rfl) ?_); simp only [Act.put, n1, n2, n3]) | ((refine vl (by rfl) (ex_lenG 22 42 Tryd.underlying22 rfl rfl) ?_); simp only [Act.put, n1, n2, n3]) | ((refine vl (by rfl) (ex_indexG 22 23 i und22 idx22 rfl rfl rfl (unhide HLT)) ?_); simp only [Act.put, n1, n2, n3]) | ((refine vl (by rfl) (ex_loadR (vs := actCs x.kd x.k x.d x.n (.slice IA x.il.length ic)) 42 23 row41 siz41 rfl rfl (unhide HA2 _ (unhide LL).fr) rfl) ?_); simp only [Act.put, n1, n2, n3]) | ((refine alK (v := .agg (zeroAct).toArray) 42 (zeroAct) (by rfl) rfl (fun w => by kernel_rfl) rfl (Nat.succ_pos _) (unhide LL) ?_); intro X10 B10 hB10 L10; replace hB10 := hide hB10; replace LL := hide L10; clear L10; simp only [Act.put, n1, n2, n3]) | ((refine stK (vs := actCs x.kd x.k x.d x.n (.slice IA x.il.length ic)) 2 42 (by rfl) rfl rfl rfl rfl (act_one _ _ _ _ _ _ _) siz41 (unhide LL) rfl (by simp [cput, zeroAct, actCs, zeroK, zeroD, KK.cs, DD.cs, VV.cs]) (unhide hB10) ?_); intro X12 L12; replace LL := hide L12; clear L12; simp only [Act.put, n1, n2, n3]) | ((refine alK (v := .int .i64 0) 3 ([.int .i64 0]) (by rfl) rfl (fun w => by kernel_rfl) rfl (Nat.succ_pos _) (unhide LL) ?_); intro X11 B11 hB11 L11; replace hB11 := hide hB11; replace LL := hide L11; clear L11; simp only [Act.put, n1, n2, n3]) | ((refine stK (vs := [.int .i64 0]) 3 3 (by rfl) rfl rfl rfl rfl (by simp [Value.oneCell']) siz3 (unhide LL) rfl (by simp [cput, zeroAct, actCs, zeroK, zeroD, KK.cs, DD.cs, VV.cs]) (unhide hB11) ?_); intro X13 L13; replace LL := hide L13; clear L13; simp only [Act.put, n1, n2, n3])))
                have HGT := hide (get19 Tc x.k _ (unhide LL).ri.is (unhide HOK))
                rw [(unhide LL).ri.tq] at HGT
                have hhas : (abs T1).has x.k = (Tc.find x.k).isSome := by rw [← unhide HTC, abs_has]
                obtain ⟨fb, hfb⟩ : ∃ fb, (Tc.find x.k).isSome = fb := ⟨_, rfl⟩
                rw [hfb] at HGT hhas
                clear hfb
                refine (unhide HGT).mono ?_
                rintro _ Y ⟨rfl, hbn⟩
                replace LL := hide ((unhide LL).on hbn)
                clear hbn HGT
                have HF : Hid (abs Tc = (actA x (abs T1)).1) := hide (by rw [unhide HAC]; exact unhide HTC)
                cases fb
                · have HV : Hid ((0 : Int) = (actA x (abs T1)).2) := hide (by rw [unhide HAC]; simp [hhas])
                  clear hhas
                  go_wp2_with (first | go_skip | ((with_reducible show wpList _ _ _ _ _ _); first | ((refine alK (v := .agg (zeroD.cs).toArray) 40 (zeroD.cs) (by rfl) rfl (fun w => by kernel_rfl) rfl (Nat.succ_pos _) (unhide LL) ?_); intro X20 B20 hB20 L20; replace hB20 := hide hB20; replace LL := hide L20; clear L20; simp only [Act.put, n1, n2, n3]) | ((refine stK (vs := (getD Tc x.k).cs) 4 40 (by rfl) rfl rfl rfl rfl (by simp [DD.cs, VV.cs, Value.oneCell']) siz39 (unhide LL) rfl (by simp [cput, zeroAct, actCs, zeroK, zeroD, KK.cs, DD.cs, VV.cs]) (unhide hB20) ?_); intro X21 L21; replace LL := hide L21; clear L21; simp only [Act.put, n1, n2, n3])))
                  obtain ⟨LB, hLB, hLL⟩ : ∃ LB, LB = _ ∧ RJ w _ T Tc LB tv xs ds := ⟨_, rfl, unhide LL⟩
                  have hg3 : LB[0]? = some (B3, [.pointer (some ⟨T.t, 0, none⟩)]) := by rw [hLB]; rfl
                  have hg11 : LB[3]? = some (B11, [.int .i64 (0)]) := by rw [hLB]; rfl
                  have hq0 := hLL.drew
                  refine wp_region_held_drew (P := Tryd.prog) (S := fun X => RI w X T Tc LB) (by kernel_rfl) hq0.ri (fun hS0 => ?_)
                  refine gsem 0 (some 138) (tv) rfl (by kernel_rfl) (by kernel_rfl) (by kernel_rfl) (fun _ _ _ h => h) (by kernel_rfl) (by kernel_rfl) (fun _ _ => by kernel_rfl) hq0.ri ?_
                  simp only [Act.put, n1, n2, n3]
                  refine gsem 1 (some 139) (.int .i64 (0)) rfl (by kernel_rfl) (by kernel_rfl) (by kernel_rfl) (fun _ _ _ h => h) (by kernel_rfl) (by kernel_rfl) (fun X hX => ex_load1 3 Tryd.isAgg3 rfl rfl (hX.hq.get 3 hg11) rfl) hq0.ri ?_
                  simp only [Act.put, n1, n2, n3]
                  refine gsem 2 (some 140) (.pointer (some ⟨T.t, 0, none⟩)) rfl (by kernel_rfl) (by kernel_rfl) (by kernel_rfl) (fun _ _ _ h => h) (by kernel_rfl) (by kernel_rfl) (fun X hX => ex_load1 29 Tryd.isAgg29 rfl rfl (hX.hq.get 0 hg3) rfl) hq0.ri ?_
                  simp only [Act.put, n1, n2, n3]
                  have HLN := hide (len30 Tc _ hq0.ri.is)
                  rw [hq0.ri.tq] at HLN
                  refine wpAnyH_ready (rs := [3]) (by kernel_rfl) (by simp) (gcallR 3 (some 141) rfl (by kernel_rfl) (by kernel_rfl) (by kernel_rfl) (unhide HLN) ?_ AllReadyH.nil)
                  rintro _ Y3 ⟨rfl, hY3⟩
                  subst hY3
                  refine ⟨_, rfl, hq0.ri, ?_⟩
                  simp only [Act.put, n1, n2, n3]
                  have hI4 := hq0.fresh ([.int .i64 (0), .int .i64 (Tc.live.length : Nat)]) 3
                  have hb4 := hq0.bl (Obj.cells ([.int .i64 (0), .int .i64 (Tc.live.length : Nat)]).toArray 3)
                  refine wpAnyH_ready (rs := [4]) (by kernel_rfl) (by simp) (gval 4 (some 142) rfl (by kernel_rfl) (by kernel_rfl) (ex_build26 (0) (Tc.live.length : Nat) rfl rfl rfl) (hq0.ri.on hb4) ?_ AllReadyH.nil)
                  simp only [Act.put, n1, n2, n3]
                  have hq4 := hq0.on hb4
                  refine wpAnyH_ready (rs := [5]) (by kernel_rfl) (by simp) (gappF (base := w.heap.size) (size := 1) (bytes := 8) (k := xs.length) (m := 2) (news := [.int .i64 (0), .int .i64 (Tc.live.length : Nat)]) (xs := xs.map (fun z => .int .i64 z)) (v := tv) 5 (some 143) rfl (by kernel_rfl) (by kernel_rfl) rfl rfl rfl Tryd.underlying26 inf3 rfl (by decide) hq4.own hI4 rfl (by simp [Value.oneCell']) (by have := unhide HXS; omega) (by decide) hq4.fr.size (fun X hg => hq4.ri_grown hg) ?_ AllReadyH.nil)
                  intro A6 c6 X6 hO6 hg6 hF6
                  simp only [Act.put, n1, n2, n3]
                  have hq6 := hq4.app (ys := [0, (Tc.live.length : Int)]) (tv2 := .slice A6 (xs.length + 2) c6) (by simpa using hO6) hg6 hF6
                  refine gsem 6 (some 8) (.slice A6 (xs.length + 2) c6) rfl (by kernel_rfl) (by kernel_rfl) (by kernel_rfl) (fun _ _ _ h => h) (by kernel_rfl) (by kernel_rfl) (fun _ _ => by kernel_rfl) hq6.ri ?_
                  simp only [Act.put, n1, n2, n3]
                  refine wpAnyH_done (by kernel_rfl) ?_ _
                  try simp only [Act.put, n1, n2, n3]
                  rw [hLB] at hq6
                  have LN : Hid (RJ w X6 T Tc [(B3, [.pointer (some ⟨T.t, 0, none⟩)]), (B5, [.bool true])] (.slice A6 (xs.length + 2) c6) (xs ++ [0, (Tc.live.length : Int)]) (ds)) := hide (RJ.left (L := [(B3, [.pointer (some ⟨T.t, 0, none⟩)]), (B5, [.bool true])]) (M := _) hq6)
                  clear hq0 hq4 hq6 hLL hLB hg3 hg11 hI4 hb4 hO6 hg6 hF6 hS0 HLN LL
                  go_wp2
                  rw [show ((i : Int) + 1) = ((i + 1 : Nat) : Int) from rfl]
                  exact (Handed.intro (l.length - (i + 1)) (by have := unhide HLT; omega) (hJ _ _ _ (LI8.mk (i + 1) Tc _ (ds) _ _ _ _ _ _ _ _ _ _ _ _ _ _ _ _ _ _ _ _ _ _ _ _ _ _ _ _ _ _ _ _ _ _ _ _ _ _ _ _ _ _ _ _ _ _ _ _ _ _ _ _ _ _ _ _ _ _ _ _ _ _ _ _ _ _ _ _ _ _ _ _ _ _ _ _ _ _ _ _ _ _ _ _ _ _ _ _ _ _ _ _ _ _ _ _ _ _ _ _ _ _ _ _ _ _ _ _ _ _ _ _ _ _ _ _ _ _ _ _ _ _ _ _ _ _ _ _ _ _ _ _ _ _ _ _ _ _ (by have := unhide HLT; omega) (Nat.le_refl _) (hide ⟨unhide LN, by have h1 := unhide HDR; rw [← unhide HF, ← unhide HV] at h1; have h2 := (unhide HI).2.1; rw [h1, abs_len] at h2; exact h2, by have h1 := act_last x (abs T1); rw [← unhide HF] at h1; have h2 : Tc.last ≤ T1.last + 201 := h1; have h3 := (unhide HI).2.2.1; omega, (unhide HI).2.2.2.1, (unhide HI).2.2.2.2.1, by have := (unhide HI).2.2.2.2.2; simp; omega⟩))))
                · have HV : Hid ((1 : Int) = (actA x (abs T1)).2) := hide (by rw [unhide HAC]; simp [hhas])
                  clear hhas
                  go_wp2_with (first | go_skip | ((with_reducible show wpList _ _ _ _ _ _); first | ((refine alK (v := .agg (zeroD.cs).toArray) 40 (zeroD.cs) (by rfl) rfl (fun w => by kernel_rfl) rfl (Nat.succ_pos _) (unhide LL) ?_); intro X20 B20 hB20 L20; replace hB20 := hide hB20; replace LL := hide L20; clear L20; simp only [Act.put, n1, n2, n3]) | ((refine stK (vs := (getD Tc x.k).cs) 4 40 (by rfl) rfl rfl rfl rfl (by simp [DD.cs, VV.cs, Value.oneCell']) siz39 (unhide LL) rfl (by simp [cput, zeroAct, actCs, zeroK, zeroD, KK.cs, DD.cs, VV.cs]) (unhide hB20) ?_); intro X21 L21; replace LL := hide L21; clear L21; simp only [Act.put, n1, n2, n3]) | ((refine stK (vs := [.int .i64 1]) 3 3 (by rfl) rfl rfl rfl rfl (by simp [Value.oneCell']) siz3 (unhide LL) rfl (by simp [cput, zeroAct, actCs, zeroK, zeroD, KK.cs, DD.cs, VV.cs]) (unhide hB11) ?_); intro X14 L14; replace LL := hide L14; clear L14; simp only [Act.put, n1, n2, n3])))
                  obtain ⟨LB, hLB, hLL⟩ : ∃ LB, LB = _ ∧ RJ w _ T Tc LB tv xs ds := ⟨_, rfl, unhide LL⟩
                  have hg3 : LB[0]? = some (B3, [.pointer (some ⟨T.t, 0, none⟩)]) := by rw [hLB]; rfl
                  have hg11 : LB[3]? = some (B11, [.int .i64 (1)]) := by rw [hLB]; rfl
                  have hq0 := hLL.drew
                  refine wp_region_held_drew (P := Tryd.prog) (S := fun X => RI w X T Tc LB) (by kernel_rfl) hq0.ri (fun hS0 => ?_)
                  refine gsem 0 (some 138) (tv) rfl (by kernel_rfl) (by kernel_rfl) (by kernel_rfl) (fun _ _ _ h => h) (by kernel_rfl) (by kernel_rfl) (fun _ _ => by kernel_rfl) hq0.ri ?_
                  simp only [Act.put, n1, n2, n3]
                  refine gsem 1 (some 139) (.int .i64 (1)) rfl (by kernel_rfl) (by kernel_rfl) (by kernel_rfl) (fun _ _ _ h => h) (by kernel_rfl) (by kernel_rfl) (fun X hX => ex_load1 3 Tryd.isAgg3 rfl rfl (hX.hq.get 3 hg11) rfl) hq0.ri ?_
                  simp only [Act.put, n1, n2, n3]
                  refine gsem 2 (some 140) (.pointer (some ⟨T.t, 0, none⟩)) rfl (by kernel_rfl) (by kernel_rfl) (by kernel_rfl) (fun _ _ _ h => h) (by kernel_rfl) (by kernel_rfl) (fun X hX => ex_load1 29 Tryd.isAgg29 rfl rfl (hX.hq.get 0 hg3) rfl) hq0.ri ?_
                  simp only [Act.put, n1, n2, n3]
                  have HLN := hide (len30 Tc _ hq0.ri.is)
                  rw [hq0.ri.tq] at HLN
                  refine wpAnyH_ready (rs := [3]) (by kernel_rfl) (by simp) (gcallR 3 (some 141) rfl (by kernel_rfl) (by kernel_rfl) (by kernel_rfl) (unhide HLN) ?_ AllReadyH.nil)
                  rintro _ Y3 ⟨rfl, hY3⟩
                  subst hY3
                  refine ⟨_, rfl, hq0.ri, ?_⟩
                  simp only [Act.put, n1, n2, n3]
                  have hI4 := hq0.fresh ([.int .i64 (1), .int .i64 (Tc.live.length : Nat)]) 3
                  have hb4 := hq0.bl (Obj.cells ([.int .i64 (1), .int .i64 (Tc.live.length : Nat)]).toArray 3)
                  refine wpAnyH_ready (rs := [4]) (by kernel_rfl) (by simp) (gval 4 (some 142) rfl (by kernel_rfl) (by kernel_rfl) (ex_build26 (1) (Tc.live.length : Nat) rfl rfl rfl) (hq0.ri.on hb4) ?_ AllReadyH.nil)
                  simp only [Act.put, n1, n2, n3]
                  have hq4 := hq0.on hb4
                  refine wpAnyH_ready (rs := [5]) (by kernel_rfl) (by simp) (gappF (base := w.heap.size) (size := 1) (bytes := 8) (k := xs.length) (m := 2) (news := [.int .i64 (1), .int .i64 (Tc.live.length : Nat)]) (xs := xs.map (fun z => .int .i64 z)) (v := tv) 5 (some 143) rfl (by kernel_rfl) (by kernel_rfl) rfl rfl rfl Tryd.underlying26 inf3 rfl (by decide) hq4.own hI4 rfl (by simp [Value.oneCell']) (by have := unhide HXS; omega) (by decide) hq4.fr.size (fun X hg => hq4.ri_grown hg) ?_ AllReadyH.nil)
                  intro A6 c6 X6 hO6 hg6 hF6
                  simp only [Act.put, n1, n2, n3]
                  have hq6 := hq4.app (ys := [1, (Tc.live.length : Int)]) (tv2 := .slice A6 (xs.length + 2) c6) (by simpa using hO6) hg6 hF6
                  refine gsem 6 (some 8) (.slice A6 (xs.length + 2) c6) rfl (by kernel_rfl) (by kernel_rfl) (by kernel_rfl) (fun _ _ _ h => h) (by kernel_rfl) (by kernel_rfl) (fun _ _ => by kernel_rfl) hq6.ri ?_
                  simp only [Act.put, n1, n2, n3]
                  refine wpAnyH_done (by kernel_rfl) ?_ _
                  try simp only [Act.put, n1, n2, n3]
                  rw [hLB] at hq6
                  have LN : Hid (RJ w X6 T Tc [(B3, [.pointer (some ⟨T.t, 0, none⟩)]), (B5, [.bool true])] (.slice A6 (xs.length + 2) c6) (xs ++ [1, (Tc.live.length : Int)]) (ds)) := hide (RJ.left (L := [(B3, [.pointer (some ⟨T.t, 0, none⟩)]), (B5, [.bool true])]) (M := _) hq6)
                  clear hq0 hq4 hq6 hLL hLB hg3 hg11 hI4 hb4 hO6 hg6 hF6 hS0 HLN LL
                  go_wp2
                  rw [show ((i : Int) + 1) = ((i + 1 : Nat) : Int) from rfl]
                  exact (Handed.intro (l.length - (i + 1)) (by have := unhide HLT; omega) (hJ _ _ _ (LI8.mk (i + 1) Tc _ (ds) _ _ _ _ _ _ _ _ _ _ _ _ _ _ _ _ _ _ _ _ _ _ _ _ _ _ _ _ _ _ _ _ _ _ _ _ _ _ _ _ _ _ _ _ _ _ _ _ _ _ _ _ _ _ _ _ _ _ _ _ _ _ _ _ _ _ _ _ _ _ _ _ _ _ _ _ _ _ _ _ _ _ _ _ _ _ _ _ _ _ _ _ _ _ _ _ _ _ _ _ _ _ _ _ _ _ _ _ _ _ _ _ _ _ _ _ _ _ _ _ _ _ _ _ _ _ _ _ _ _ _ _ _ _ _ _ _ _ (by have := unhide HLT; omega) (Nat.le_refl _) (hide ⟨unhide LN, by have h1 := unhide HDR; rw [← unhide HF, ← unhide HV] at h1; have h2 := (unhide HI).2.1; rw [h1, abs_len] at h2; exact h2, by have h1 := act_last x (abs T1); rw [← unhide HF] at h1; have h2 : Tc.last ≤ T1.last + 201 := h1; have h3 := (unhide HI).2.2.1; omega, (unhide HI).2.2.2.1, (unhide HI).2.2.2.2.1, by have := (unhide HI).2.2.2.2.2; simp; omega⟩))))
              · by_cases h6 : x.kd = 6
                · have he6 : (x.kd == 6) = true := by simp [h6]
                  have he1 : (x.kd == 1) = false := by simp [h1]
                  have he2 : (x.kd == 2) = false := by simp [h2]
                  have he3 : (x.kd == 3) = false := by simp [h3]
                  have he5 : (x.kd == 5) = false := by simp [h5]
                  have HAC : Hid (actA x (abs T1) = (abs T1, if 0 ≤ x.n ∧ x.n < ((abs T1).l.length : Int) then 1 else 0)) := hide (by unfold actA; rw [if_neg h1, if_neg h2, if_neg h3, if_neg h5, if_pos h6])
                  clear h1 h2 h3 h5 h6
                  have hlen : (abs T1).l.length = Tc.live.length := by rw [← unhide HTC]; simp [abs]
                  by_cases hin6 : 0 ≤ x.n ∧ x.n < (Tc.live.length : Int)
                  · obtain ⟨j, hj⟩ : ∃ j : Nat, x.n = (j : Nat) := ⟨x.n.toNat, by omega⟩
                    have hjl : j < Tc.live.length := by omega
                    have HV : Hid ((1 : Int) = (actA x (abs T1)).2) := hide (by rw [unhide HAC]; simp only [hlen]; rw [if_pos hin6])
                    have HJL := hide hjl
                    have HJ := hide hj
                    clear hin6 hlen hjl hj
                    go_wp2_with (first | go_skip | ((with_reducible show wpList _ _ _ _ _ _); first | ((refine vl (by rfl) (ex_load1 29 Tryd.isAgg29 rfl rfl ((unhide LL).get 0 rfl) rfl) ?_); simp only [Act.put, n1, n2, n3]) | ((refine vl (by rfl) (ex_load1 4 Tryd.isAgg4 rfl rfl ((unhide LL).get 1 rfl) rfl) ?_); simp only [Act.put, n1, n2, n3]) | ((refine vl (by rfl) (ex_load1 3 Tryd.isAgg3 rfl rfl ((unhide LL).get 2 rfl) rfl) ?_); simp only [Act.put, n1, n2, n3]) | ((refine vl (by rfl) (ex_loadN (vs := x.k.cs) 34 2 row33x siz33 rfl rfl ((unhide LL).get 2 rfl) rfl rfl) ?_); simp only [Act.put, n1, n2, n3]) | ((refine vl (by rfl) (ex_loadN (vs := x.d.cs) 40 18 row39 siz39 rfl rfl ((unhide LL).get 2 rfl) rfl rfl) ?_); simp only [Act.put, n1, n2, n3]) | ((refine vl (by rfl) (ex_lenG 22 42 Tryd.underlying22 rfl rfl) ?_); simp only [Act.put, n1, n2, n3]) | ((refine vl (by rfl) (ex_indexG 22 23 i und22 idx22 rfl rfl rfl (unhide HLT)) ?_); simp only [Act.put, n1, n2, n3]) | ((refine vl (by rfl) (ex_loadR (vs := actCs x.kd x.k x.d x.n (.slice IA x.il.length ic)) 42 23 row41 siz41 rfl rfl (unhide HA2 _ (unhide LL).fr) rfl) ?_); simp only [Act.put, n1, n2, n3]) | ((refine alK (v := .agg (zeroAct).toArray) 42 (zeroAct) (by rfl) rfl (fun w => by kernel_rfl) rfl (Nat.succ_pos _) (unhide LL) ?_); intro X10 B10 hB10 L10; replace hB10 := hide hB10; replace LL := hide L10; clear L10; simp only [Act.put, n1, n2, n3]) | ((refine stK (vs := actCs x.kd x.k x.d x.n (.slice IA x.il.length ic)) 2 42 (by rfl) rfl rfl rfl rfl (act_one _ _ _ _ _ _ _) siz41 (unhide LL) rfl (by simp [cput, zeroAct, actCs, zeroK, zeroD, KK.cs, DD.cs, VV.cs]) (unhide hB10) ?_); intro X12 L12; replace LL := hide L12; clear L12; simp only [Act.put, n1, n2, n3]) | ((refine alK (v := .int .i64 0) 3 ([.int .i64 0]) (by rfl) rfl (fun w => by kernel_rfl) rfl (Nat.succ_pos _) (unhide LL) ?_); intro X11 B11 hB11 L11; replace hB11 := hide hB11; replace LL := hide L11; clear L11; simp only [Act.put, n1, n2, n3]) | ((refine stK (vs := [.int .i64 0]) 3 3 (by rfl) rfl rfl rfl rfl (by simp [Value.oneCell']) siz3 (unhide LL) rfl (by simp [cput, zeroAct, actCs, zeroK, zeroD, KK.cs, DD.cs, VV.cs]) (unhide hB11) ?_); intro X13 L13; replace LL := hide L13; clear L13; simp only [Act.put, n1, n2, n3])))
                    have HAT := hide (at_in Tc j _ (unhide LL).ri.is (by have := unhide HLT1; omega) (unhide HJL))
                    rw [(unhide LL).ri.tq, ← unhide HJ] at HAT
                    refine (unhide HAT).mono ?_
                    rintro _ Y ⟨rfl, T2, hto, hl2⟩
                    have hT2 := hto.is
                    have ht2 : T2.t = T.t := hto.t.trans (unhide LL).ri.tq
                    have hf2 := hto.fr
                    have hb2 := hto.new
                    have HF : Hid (abs T2 = (actA x (abs T1)).1) := hide (by rw [unhide HAC]; rw [abs_same hl2 hto.last, unhide HTC])
                    clear hto hl2 HAT
                    replace LL := hide ((unhide LL).step hT2 (ht2.trans (unhide LL).ri.tq.symm) hf2 hb2)
                    clear hT2 ht2 hf2 hb2
                    obtain ⟨pk, hpk⟩ : ∃ pk, pk = Tc.live[j]'(unhide HJL) := ⟨_, rfl⟩
                    rw [← hpk]
                    clear hpk
                    go_wp2_with (first | go_skip | ((with_reducible show wpList _ _ _ _ _ _); first | ((refine alK (v := .agg ((zeroK.cs ++ zeroD.cs)).toArray) 54 ((zeroK.cs ++ zeroD.cs)) (by rfl) rfl (fun w => by kernel_rfl) rfl (Nat.succ_pos _) (unhide LL) ?_); intro X20 B20 hB20 L20; replace hB20 := hide hB20; replace LL := hide L20; clear L20; simp only [Act.put, n1, n2, n3]) | ((refine stK (vs := (pk.k.cs ++ pk.d.cs)) 4 54 (by rfl) rfl rfl rfl rfl (by simp [KK.cs, DD.cs, VV.cs, Value.oneCell']) siz58 (unhide LL) rfl (by simp [cput, zeroAct, actCs, zeroK, zeroD, KK.cs, DD.cs, VV.cs]) (unhide hB20) ?_); intro X21 L21; replace LL := hide L21; clear L21; simp only [Act.put, n1, n2, n3]) | ((refine stK (vs := [.int .i64 1]) 3 3 (by rfl) rfl rfl rfl rfl (by simp [Value.oneCell']) siz3 (unhide LL) rfl (by simp [cput, zeroAct, actCs, zeroK, zeroD, KK.cs, DD.cs, VV.cs]) (unhide hB11) ?_); intro X14 L14; replace LL := hide L14; clear L14; simp only [Act.put, n1, n2, n3])))
                    obtain ⟨LB, hLB, hLL⟩ : ∃ LB, LB = _ ∧ RJ w _ T T2 LB tv xs ds := ⟨_, rfl, unhide LL⟩
                    have hg3 : LB[0]? = some (B3, [.pointer (some ⟨T.t, 0, none⟩)]) := by rw [hLB]; rfl
                    have hg11 : LB[3]? = some (B11, [.int .i64 (1)]) := by rw [hLB]; rfl
                    have hq0 := hLL.drew
                    refine wp_region_held_drew (P := Tryd.prog) (S := fun X => RI w X T T2 LB) (by kernel_rfl) hq0.ri (fun hS0 => ?_)
                    refine gsem 0 (some 138) (tv) rfl (by kernel_rfl) (by kernel_rfl) (by kernel_rfl) (fun _ _ _ h => h) (by kernel_rfl) (by kernel_rfl) (fun _ _ => by kernel_rfl) hq0.ri ?_
                    simp only [Act.put, n1, n2, n3]
                    refine gsem 1 (some 139) (.int .i64 (1)) rfl (by kernel_rfl) (by kernel_rfl) (by kernel_rfl) (fun _ _ _ h => h) (by kernel_rfl) (by kernel_rfl) (fun X hX => ex_load1 3 Tryd.isAgg3 rfl rfl (hX.hq.get 3 hg11) rfl) hq0.ri ?_
                    simp only [Act.put, n1, n2, n3]
                    refine gsem 2 (some 140) (.pointer (some ⟨T.t, 0, none⟩)) rfl (by kernel_rfl) (by kernel_rfl) (by kernel_rfl) (fun _ _ _ h => h) (by kernel_rfl) (by kernel_rfl) (fun X hX => ex_load1 29 Tryd.isAgg29 rfl rfl (hX.hq.get 0 hg3) rfl) hq0.ri ?_
                    simp only [Act.put, n1, n2, n3]
                    have HLN := hide (len30 T2 _ hq0.ri.is)
                    rw [hq0.ri.tq] at HLN
                    refine wpAnyH_ready (rs := [3]) (by kernel_rfl) (by simp) (gcallR 3 (some 141) rfl (by kernel_rfl) (by kernel_rfl) (by kernel_rfl) (unhide HLN) ?_ AllReadyH.nil)
                    rintro _ Y3 ⟨rfl, hY3⟩
                    subst hY3
                    refine ⟨_, rfl, hq0.ri, ?_⟩
                    simp only [Act.put, n1, n2, n3]
                    have hI4 := hq0.fresh ([.int .i64 (1), .int .i64 (T2.live.length : Nat)]) 3
                    have hb4 := hq0.bl (Obj.cells ([.int .i64 (1), .int .i64 (T2.live.length : Nat)]).toArray 3)
                    refine wpAnyH_ready (rs := [4]) (by kernel_rfl) (by simp) (gval 4 (some 142) rfl (by kernel_rfl) (by kernel_rfl) (ex_build26 (1) (T2.live.length : Nat) rfl rfl rfl) (hq0.ri.on hb4) ?_ AllReadyH.nil)
                    simp only [Act.put, n1, n2, n3]
                    have hq4 := hq0.on hb4
                    refine wpAnyH_ready (rs := [5]) (by kernel_rfl) (by simp) (gappF (base := w.heap.size) (size := 1) (bytes := 8) (k := xs.length) (m := 2) (news := [.int .i64 (1), .int .i64 (T2.live.length : Nat)]) (xs := xs.map (fun z => .int .i64 z)) (v := tv) 5 (some 143) rfl (by kernel_rfl) (by kernel_rfl) rfl rfl rfl Tryd.underlying26 inf3 rfl (by decide) hq4.own hI4 rfl (by simp [Value.oneCell']) (by have := unhide HXS; omega) (by decide) hq4.fr.size (fun X hg => hq4.ri_grown hg) ?_ AllReadyH.nil)
                    intro A6 c6 X6 hO6 hg6 hF6
                    simp only [Act.put, n1, n2, n3]
                    have hq6 := hq4.app (ys := [1, (T2.live.length : Int)]) (tv2 := .slice A6 (xs.length + 2) c6) (by simpa using hO6) hg6 hF6
                    refine gsem 6 (some 8) (.slice A6 (xs.length + 2) c6) rfl (by kernel_rfl) (by kernel_rfl) (by kernel_rfl) (fun _ _ _ h => h) (by kernel_rfl) (by kernel_rfl) (fun _ _ => by kernel_rfl) hq6.ri ?_
                    simp only [Act.put, n1, n2, n3]
                    refine wpAnyH_done (by kernel_rfl) ?_ _
                    try simp only [Act.put, n1, n2, n3]
                    rw [hLB] at hq6
                    have LN : Hid (RJ w X6 T T2 [(B3, [.pointer (some ⟨T.t, 0, none⟩)]), (B5, [.bool true])] (.slice A6 (xs.length + 2) c6) (xs ++ [1, (T2.live.length : Int)]) (ds)) := hide (RJ.left (L := [(B3, [.pointer (some ⟨T.t, 0, none⟩)]), (B5, [.bool true])]) (M := _) hq6)
                    clear hq0 hq4 hq6 hLL hLB hg3 hg11 hI4 hb4 hO6 hg6 hF6 hS0 HLN LL
                    go_wp2
                    rw [show ((i : Int) + 1) = ((i + 1 : Nat) : Int) from rfl]
                    exact (Handed.intro (l.length - (i + 1)) (by have := unhide HLT; omega) (hJ _ _ _ (LI8.mk (i + 1) T2 _ (ds) _ _ _ _ _ _ _ _ _ _ _ _ _ _ _ _ _ _ _ _ _ _ _ _ _ _ _ _ _ _ _ _ _ _ _ _ _ _ _ _ _ _ _ _ _ _ _ _ _ _ _ _ _ _ _ _ _ _ _ _ _ _ _ _ _ _ _ _ _ _ _ _ _ _ _ _ _ _ _ _ _ _ _ _ _ _ _ _ _ _ _ _ _ _ _ _ _ _ _ _ _ _ _ _ _ _ _ _ _ _ _ _ _ _ _ _ _ _ _ _ _ _ _ _ _ _ _ _ _ _ _ _ _ _ _ _ _ _ (by have := unhide HLT; omega) (Nat.le_refl _) (hide ⟨unhide LN, by have h1 := unhide HDR; rw [← unhide HF, ← unhide HV] at h1; have h2 := (unhide HI).2.1; rw [h1, abs_len] at h2; exact h2, by have h1 := act_last x (abs T1); rw [← unhide HF] at h1; have h2 : T2.last ≤ T1.last + 201 := h1; have h3 := (unhide HI).2.2.1; omega, (unhide HI).2.2.2.1, (unhide HI).2.2.2.2.1, by have := (unhide HI).2.2.2.2.2; simp; omega⟩))))
                  · have HV : Hid ((0 : Int) = (actA x (abs T1)).2) := hide (by rw [unhide HAC]; simp only [hlen]; rw [if_neg hin6])
                    have HOT : Hid (x.n < 0 ∨ (Tc.live.length : Int) ≤ x.n) := hide (by omega)
                    clear hin6 hlen
                    go_wp2_with (first | go_skip | ((with_reducible show wpList _ _ _ _ _ _); first | ((refine vl (by rfl) (ex_load1 29 Tryd.isAgg29 rfl rfl ((unhide LL).get 0 rfl) rfl) ?_); simp only [Act.put, n1, n2, n3]) | ((refine vl (by rfl) (ex_load1 4 Tryd.isAgg4 rfl rfl ((unhide LL).get 1 rfl) rfl) ?_); simp only [Act.put, n1, n2, n3]) | ((refine vl (by rfl) (ex_load1 3 Tryd.isAgg3 rfl rfl ((unhide LL).get 2 rfl) rfl) ?_); simp only [Act.put, n1, n2, n3]) | ((refine vl (by rfl) (ex_loadN (vs := x.k.cs) 34 2 row33x siz33 rfl rfl ((unhide LL).get 2 rfl) rfl rfl) ?_); simp only [Act.put, n1, n2, n3]) | ((refine vl (by rfl) (ex_loadN (vs := x.d.cs) 40 18 row39 siz39 rfl rfl ((unhide LL).get 2 rfl) rfl rfl) ?_); simp only [Act.put, n1, n2, n3]) | ((refine vl (by rfl) (ex_lenG 22 42 Tryd.underlying22 rfl rfl) ?_); simp only [Act.put, n1, n2, n3]) | ((refine vl (by rfl) (ex_indexG 22 23 i und22 idx22 rfl rfl rfl (unhide HLT)) ?_); simp only [Act.put, n1, n2, n3]) | ((refine vl (by rfl) (ex_loadR (vs := actCs x.kd x.k x.d x.n (.slice IA x.il.length ic)) 42 23 row41 siz41 rfl rfl (unhide HA2 _ (unhide LL).fr) rfl) ?_); simp only [Act.put, n1, n2, n3]) | ((refine alK (v := .agg (zeroAct).toArray) 42 (zeroAct) (by rfl) rfl (fun w => by kernel_rfl) rfl (Nat.succ_pos _) (unhide LL) ?_); intro X10 B10 hB10 L10; replace hB10 := hide hB10; replace LL := hide L10; clear L10; simp only [Act.put, n1, n2, n3]) | ((refine stK (vs := actCs x.kd x.k x.d x.n (.slice IA x.il.length ic)) 2 42 (by rfl) rfl rfl rfl rfl (act_one _ _ _ _ _ _ _) siz41 (unhide LL) rfl (by simp [cput, zeroAct, actCs, zeroK, zeroD, KK.cs, DD.cs, VV.cs]) (unhide hB10) ?_); intro X12 L12; replace LL := hide L12; clear L12; simp only [Act.put, n1, n2, n3]) | ((refine alK (v := .int .i64 0) 3 ([.int .i64 0]) (by rfl) rfl (fun w => by kernel_rfl) rfl (Nat.succ_pos _) (unhide LL) ?_); intro X11 B11 hB11 L11; replace hB11 := hide hB11; replace LL := hide L11; clear L11; simp only [Act.put, n1, n2, n3]) | ((refine stK (vs := [.int .i64 0]) 3 3 (by rfl) rfl rfl rfl rfl (by simp [Value.oneCell']) siz3 (unhide LL) rfl (by simp [cput, zeroAct, actCs, zeroK, zeroD, KK.cs, DD.cs, VV.cs]) (unhide hB11) ?_); intro X13 L13; replace LL := hide L13; clear L13; simp only [Act.put, n1, n2, n3])))
                    have HAT := hide (at_out Tc x.n _ (unhide LL).ri.is (unhide HOT))
                    rw [(unhide LL).ri.tq] at HAT
                    refine (unhide HAT).mono ?_
                    rintro _ Y ⟨rfl, hbn⟩
                    replace LL := hide ((unhide LL).on hbn)
                    clear hbn HAT
                    have HF : Hid (abs Tc = (actA x (abs T1)).1) := hide (by rw [unhide HAC]; exact unhide HTC)
                    go_wp2_with (first | go_skip | ((with_reducible show wpList _ _ _ _ _ _); first | ((refine alK (v := .agg ((zeroK.cs ++ zeroD.cs)).toArray) 54 ((zeroK.cs ++ zeroD.cs)) (by rfl) rfl (fun w => by kernel_rfl) rfl (Nat.succ_pos _) (unhide LL) ?_); intro X20 B20 hB20 L20; replace hB20 := hide hB20; replace LL := hide L20; clear L20; simp only [Act.put, n1, n2, n3]) | ((refine stK (vs := (zeroK.cs ++ zeroD.cs)) 4 54 (by rfl) rfl rfl rfl rfl (by simp [KK.cs, DD.cs, VV.cs, Value.oneCell']) siz58 (unhide LL) rfl (by simp [cput, zeroAct, actCs, zeroK, zeroD, KK.cs, DD.cs, VV.cs]) (unhide hB20) ?_); intro X21 L21; replace LL := hide L21; clear L21; simp only [Act.put, n1, n2, n3])))
                    obtain ⟨LB, hLB, hLL⟩ : ∃ LB, LB = _ ∧ RJ w _ T Tc LB tv xs ds := ⟨_, rfl, unhide LL⟩
                    have hg3 : LB[0]? = some (B3, [.pointer (some ⟨T.t, 0, none⟩)]) := by rw [hLB]; rfl
                    have hg11 : LB[3]? = some (B11, [.int .i64 (0)]) := by rw [hLB]; rfl
                    have hq0 := hLL.drew
                    refine wp_region_held_drew (P := Tryd.prog) (S := fun X => RI w X T Tc LB) (by kernel_rfl) hq0.ri (fun hS0 => ?_)
                    refine gsem 0 (some 138) (tv) rfl (by kernel_rfl) (by kernel_rfl) (by kernel_rfl) (fun _ _ _ h => h) (by kernel_rfl) (by kernel_rfl) (fun _ _ => by kernel_rfl) hq0.ri ?_
                    simp only [Act.put, n1, n2, n3]
                    refine gsem 1 (some 139) (.int .i64 (0)) rfl (by kernel_rfl) (by kernel_rfl) (by kernel_rfl) (fun _ _ _ h => h) (by kernel_rfl) (by kernel_rfl) (fun X hX => ex_load1 3 Tryd.isAgg3 rfl rfl (hX.hq.get 3 hg11) rfl) hq0.ri ?_
                    simp only [Act.put, n1, n2, n3]
                    refine gsem 2 (some 140) (.pointer (some ⟨T.t, 0, none⟩)) rfl (by kernel_rfl) (by kernel_rfl) (by kernel_rfl) (fun _ _ _ h => h) (by kernel_rfl) (by kernel_rfl) (fun X hX => ex_load1 29 Tryd.isAgg29 rfl rfl (hX.hq.get 0 hg3) rfl) hq0.ri ?_
                    simp only [Act.put, n1, n2, n3]
                    have HLN := hide (len30 Tc _ hq0.ri.is)
                    rw [hq0.ri.tq] at HLN
                    refine wpAnyH_ready (rs := [3]) (by kernel_rfl) (by simp) (gcallR 3 (some 141) rfl (by kernel_rfl) (by kernel_rfl) (by kernel_rfl) (unhide HLN) ?_ AllReadyH.nil)
                    rintro _ Y3 ⟨rfl, hY3⟩
                    subst hY3
                    refine ⟨_, rfl, hq0.ri, ?_⟩
                    simp only [Act.put, n1, n2, n3]
                    have hI4 := hq0.fresh ([.int .i64 (0), .int .i64 (Tc.live.length : Nat)]) 3
                    have hb4 := hq0.bl (Obj.cells ([.int .i64 (0), .int .i64 (Tc.live.length : Nat)]).toArray 3)
                    refine wpAnyH_ready (rs := [4]) (by kernel_rfl) (by simp) (gval 4 (some 142) rfl (by kernel_rfl) (by kernel_rfl) (ex_build26 (0) (Tc.live.length : Nat) rfl rfl rfl) (hq0.ri.on hb4) ?_ AllReadyH.nil)
                    simp only [Act.put, n1, n2, n3]
                    have hq4 := hq0.on hb4
                    refine wpAnyH_ready (rs := [5]) (by kernel_rfl) (by simp) (gappF (base := w.heap.size) (size := 1) (bytes := 8) (k := xs.length) (m := 2) (news := [.int .i64 (0), .int .i64 (Tc.live.length : Nat)]) (xs := xs.map (fun z => .int .i64 z)) (v := tv) 5 (some 143) rfl (by kernel_rfl) (by kernel_rfl) rfl rfl rfl Tryd.underlying26 inf3 rfl (by decide) hq4.own hI4 rfl (by simp [Value.oneCell']) (by have := unhide HXS; omega) (by decide) hq4.fr.size (fun X hg => hq4.ri_grown hg) ?_ AllReadyH.nil)
                    intro A6 c6 X6 hO6 hg6 hF6
                    simp only [Act.put, n1, n2, n3]
                    have hq6 := hq4.app (ys := [0, (Tc.live.length : Int)]) (tv2 := .slice A6 (xs.length + 2) c6) (by simpa using hO6) hg6 hF6
                    refine gsem 6 (some 8) (.slice A6 (xs.length + 2) c6) rfl (by kernel_rfl) (by kernel_rfl) (by kernel_rfl) (fun _ _ _ h => h) (by kernel_rfl) (by kernel_rfl) (fun _ _ => by kernel_rfl) hq6.ri ?_
                    simp only [Act.put, n1, n2, n3]
                    refine wpAnyH_done (by kernel_rfl) ?_ _
                    try simp only [Act.put, n1, n2, n3]
                    rw [hLB] at hq6
                    have LN : Hid (RJ w X6 T Tc [(B3, [.pointer (some ⟨T.t, 0, none⟩)]), (B5, [.bool true])] (.slice A6 (xs.length + 2) c6) (xs ++ [0, (Tc.live.length : Int)]) (ds)) := hide (RJ.left (L := [(B3, [.pointer (some ⟨T.t, 0, none⟩)]), (B5, [.bool true])]) (M := _) hq6)
                    clear hq0 hq4 hq6 hLL hLB hg3 hg11 hI4 hb4 hO6 hg6 hF6 hS0 HLN LL
                    go_wp2
                    rw [show ((i : Int) + 1) = ((i + 1 : Nat) : Int) from rfl]
                    exact (Handed.intro (l.length - (i + 1)) (by have := unhide HLT; omega) (hJ _ _ _ (LI8.mk (i + 1) Tc _ (ds) _ _ _ _ _ _ _ _ _ _ _ _ _ _ _ _ _ _ _ _ _ _ _ _ _ _ _ _ _ _ _ _ _ _ _ _ _ _ _ _ _ _ _ _ _ _ _ _ _ _ _ _ _ _ _ _ _ _ _ _ _ _ _ _ _ _ _ _ _ _ _ _ _ _ _ _ _ _ _ _ _ _ _ _ _ _ _ _ _ _ _ _ _ _ _ _ _ _ _ _ _ _ _ _ _ _ _ _ _ _ _ _ _ _ _ _ _ _ _ _ _ _ _ _ _ _ _ _ _ _ _ _ _ _ _ _ _ _ (by have := unhide HLT; omega) (Nat.le_refl _) (hide ⟨unhide LN, by have h1 := unhide HDR; rw [← unhide HF, ← unhide HV] at h1; have h2 := (unhide HI).2.1; rw [h1, abs_len] at h2; exact h2, by have h1 := act_last x (abs T1); rw [← unhide HF] at h1; have h2 : Tc.last ≤ T1.last + 201 := h1; have h3 := (unhide HI).2.2.1; omega, (unhide HI).2.2.2.1, (unhide HI).2.2.2.2.1, by have := (unhide HI).2.2.2.2.2; simp; omega⟩))))
                · by_cases h9 : x.kd = 9
                  · have he9 : (x.kd == 9) = true := by simp [h9]
                    have he1 : (x.kd == 1) = false := by simp [h1]
                    have he2 : (x.kd == 2) = false := by simp [h2]
                    have he3 : (x.kd == 3) = false := by simp [h3]
                    have he5 : (x.kd == 5) = false := by simp [h5]
                    have he6 : (x.kd == 6) = false := by simp [h6]
                    have HAC : Hid (actA x (abs T1) = ((walkA x.il 201 ⟨abs T1, 0, 0, 0⟩).s, (walkA x.il 201 ⟨abs T1, 0, 0, 0⟩).n)) := hide (by unfold actA; rw [if_neg h1, if_neg h2, if_neg h3, if_neg h5, if_neg h6, if_pos h9])
                    clear h1 h2 h3 h5 h6 h9
                    go_wp2_with (first | go_skip | ((with_reducible show wpList _ _ _ _ _ _); first | ((refine vl (by rfl) (ex_load1 29 Tryd.isAgg29 rfl rfl ((unhide LL).get 0 rfl) rfl) ?_); simp only [Act.put, n1, n2, n3]) | ((refine vl (by rfl) (ex_load1 4 Tryd.isAgg4 rfl rfl ((unhide LL).get 1 rfl) rfl) ?_); simp only [Act.put, n1, n2, n3]) | ((refine vl (by rfl) (ex_load1 3 Tryd.isAgg3 rfl rfl ((unhide LL).get 2 rfl) rfl) ?_); simp only [Act.put, n1, n2, n3]) | ((refine vl (by rfl) (ex_loadN (vs := x.k.cs) 34 2 row33x siz33 rfl rfl ((unhide LL).get 2 rfl) rfl rfl) ?_); simp only [Act.put, n1, n2, n3]) | ((refine vl (by rfl) (ex_loadN (vs := x.d.cs) 40 18 row39 siz39 rfl rfl ((unhide LL).get 2 rfl) rfl rfl) ?_); simp only [Act.put, n1, n2, n3]) | ((refine vl (by rfl) (ex_lenG 22 42 Tryd.underlying22 rfl rfl) ?_); simp only [Act.put, n1, n2, n3]) | ((refine vl (by rfl) (ex_indexG 22 23 i und22 idx22 rfl rfl rfl (unhide HLT)) ?_); simp only [Act.put, n1, n2, n3]) | ((refine vl (by rfl) (ex_loadR (vs := actCs x.kd x.k x.d x.n (.slice IA x.il.length ic)) 42 23 row41 siz41 rfl rfl (unhide HA2 _ (unhide LL).fr) rfl) ?_); simp only [Act.put, n1, n2, n3]) | ((refine alK (v := .agg (zeroAct).toArray) 42 (zeroAct) (by rfl) rfl (fun w => by kernel_rfl) rfl (Nat.succ_pos _) (unhide LL) ?_); intro X10 B10 hB10 L10; replace hB10 := hide hB10; replace LL := hide L10; clear L10; simp only [Act.put, n1, n2, n3]) | ((refine stK (vs := actCs x.kd x.k x.d x.n (.slice IA x.il.length ic)) 2 42 (by rfl) rfl rfl rfl rfl (act_one _ _ _ _ _ _ _) siz41 (unhide LL) rfl (by simp [cput, zeroAct, actCs, zeroK, zeroD, KK.cs, DD.cs, VV.cs]) (unhide hB10) ?_); intro X12 L12; replace LL := hide L12; clear L12; simp only [Act.put, n1, n2, n3]) | ((fail_if_success (have hq := hB11)); ((refine alK (v := .int .i64 0) 3 ([.int .i64 0]) (by rfl) rfl (fun w => by kernel_rfl) rfl (Nat.succ_pos _) (unhide LL) ?_); intro X11 B11 hB11 L11; replace hB11 := hide hB11; replace LL := hide L11; clear L11; simp only [Act.put, n1, n2, n3])) | ((refine stK (vs := [.int .i64 0]) 3 3 (by rfl) rfl rfl rfl rfl (by simp [Value.oneCell']) siz3 (unhide LL) rfl (by simp [cput, zeroAct, actCs, zeroK, zeroD, KK.cs, DD.cs, VV.cs]) (unhide hB11) ?_); intro X13 L13; replace LL := hide L13; clear L13; simp only [Act.put, n1, n2, n3]) | ((refine alK (v := .int .i64 0) 3 ([.int .i64 0]) (by rfl) rfl (fun w => by kernel_rfl) rfl (Nat.succ_pos _) (unhide LL) ?_); intro X16 B16 hB16 L16; replace hB16 := hide hB16; replace LL := hide L16; clear L16; simp only [Act.put, n1, n2, n3]) | ((refine stK (vs := [.int .i64 0]) 4 3 (by rfl) rfl rfl rfl rfl (by simp [Value.oneCell']) siz3 (unhide LL) rfl (by simp [cput, zeroAct, actCs, zeroK, zeroD, KK.cs, DD.cs, VV.cs]) (unhide hB16) ?_); intro X17 L17; replace LL := hide L17; clear L17; simp only [Act.put, n1, n2, n3])))
                    have L9 : Hid (RJ w _ T Tc [(B3, [.pointer (some ⟨T.t, 0, none⟩)]), (B5, [.bool true]), (B10, actCs x.kd x.k x.d x.n (.slice IA x.il.length ic)), (B11, [.int .i64 0]), (B16, [.int .i64 0])] tv xs ds) := LL
                    clear LL
                    refine (eachJ (unhide L9)).mono ?_
                    rintro _ Y ⟨Bn, hBn, rfl, hL⟩
                    have LL : Hid (RJ w Y T Tc ((fun n a => [(B3, [.pointer (some ⟨T.t, 0, none⟩)]), (B5, [.bool true]), (B10, actCs x.kd x.k x.d x.n (.slice IA x.il.length ic)), (B11, [.int .i64 n]), (B16, [.int .i64 a]), (Bn, [.pointer (some ⟨T.t, 0, none⟩)])]) 0 0) tv xs ds) := hide hL
                    clear hL L9
                    go_wp2_with (first | go_skip | ((with_reducible show wpList _ _ _ _ _ _); first | ((refine vl (by rfl) (ex_eqFn rfl rfl) ?_); simp only [Act.put, n1, n2, n3])))
                    obtain ⟨FIN, hFIN⟩ : ∃ FIN, FIN = (walkA x.il 201 ⟨abs T1, 0, 0, 0⟩) := ⟨_, rfl⟩
                    rw [← hFIN] at HAC
                    have HFI := hide hFIN
                    clear hFIN
                    refine (wpIn_wide (n := 4)).1 ?_
                    refine range_one (σ := WS) rfl (by omega) (gf := 32) (lb := #[.pointer (some ⟨Bn, 0, none⟩)]) rfl trivial (enters_of Tryd.func32 (by kernel_rfl) rfl) (each_by 3 (by omega) T.t Bn ⟨Tc, 0, none, 201⟩ rfl _) (Below.refl _ _) ?hps (W9 w T x.il (fun n a => [(B3, [.pointer (some ⟨T.t, 0, none⟩)]), (B5, [.bool true]), (B10, actCs x.kd x.k x.d x.n (.slice IA x.il.length ic)), (B11, [.int .i64 n]), (B16, [.int .i64 a]), (Bn, [.pointer (some ⟨T.t, 0, none⟩)])]) tv xs ds FIN) (fun c W => c = .exit 3 ∧ X9 w T (fun n a => [(B3, [.pointer (some ⟨T.t, 0, none⟩)]), (B5, [.bool true]), (B10, actCs x.kd x.k x.d x.n (.slice IA x.il.length ic)), (B11, [.int .i64 n]), (B16, [.int .i64 a]), (Bn, [.pointer (some ⟨T.t, 0, none⟩)])]) tv xs ds FIN W) (fun s W h => W9.tab (i := 5) (fun _ _ => rfl) h) (W9.ownL (unhide LL).fr.size) (fun c s A B row hs hg hr => ⟨hs.1, X9.ownL (unhide LL).fr.size () A B row hs.2 hg hr⟩) ?h0 18 (fun r => r.k.cs) (fun _ => Nat.succ_pos _) ?assign ?body ?done ?stop
                    case h0 => exact ⟨⟨abs T1, 0, 0, 0⟩, unhide LL, unhide HTC, rfl, rfl, Nat.zero_le _, (unhide HFI).symm, by have := unhide HLT1; show Tc.last + 201 < 99300; omega, Nat.zero_le _, fun b hb => by cases hb⟩
                    case hps => intro q; rfl
                    case assign =>
                      intro l9 s9 r9 W9x K9 hI9 hV9 hK9
                      simp only [encR, zip2, n1, n2, n3] at hK9 ⊢
                      obtain ⟨p1, p2, p3⟩ := new_var W9x zeroK.cs r9.k.cs 34 (Nat.le_refl _) rfl (Nat.succ_pos _)
                      have HK9 := hide hK9
                      have HI9 := hide hI9
                      clear hK9 hI9
                      refine wpIn_region_lit ?_
                      refine inV (fun _ => trivial) (by rfl) (by intro c h; cases h) (ex_alloc33 rfl) ?_
                      simp only [Act.put, n1, n2, n3]
                      refine inS (fun _ => trivial) (by rfl) (by intro c h; cases h) (ex_store (t := 34) (vs := r9.k.cs) rfl rfl rfl rfl (by simp [KK.cs, Value.oneCell']) siz33 (Holds.new W9x zeroK.cs 34) (Nat.le_refl _)) ?_
                      simp only [Act.put, n1, n2, n3]
                      refine wpListIn_nil ?_
                      exact (unhide HK9) _ _ (kl_fr (Fr.of_below p1 []) (by simp)) ((unhide HI9).on p1) p2
                    case body =>
                      intro l9 s9 r9 B9 W9x hl9 hI9 hV9 hH9
                      simp only [encR, zip2, n1, n2, n3]
                      obtain ⟨wa, hJ9, g2, g3, g4, g5, g6, g7, g8, -⟩ := hI9
                      have HFN := hide (step_fin g2 g3 g4 g5 g6 hV9)
                      obtain ⟨hrm, -, hrg⟩ := next_mem hV9
                      have LK : Hid (RK w W9x W9x T s9.T ((fun n a => [(B3, [.pointer (some ⟨T.t, 0, none⟩)]), (B5, [.bool true]), (B10, actCs x.kd x.k x.d x.n (.slice IA x.il.length ic)), (B11, [.int .i64 n]), (B16, [.int .i64 a]), (Bn, [.pointer (some ⟨T.t, 0, none⟩)])]) wa.n wa.at) tv xs ds) := hide ⟨hJ9, KL.refl _⟩
                      have HRL : Hid (r9 ∈ s9.T.live) := hide (List.mem_filter.2 ⟨hrm, by simp [hrg]⟩)
                      have HRN : Hid (r9.n ≤ s9.T.last) := hide (hJ9.ri.is.num r9 hrm).2
                      have HNE : Hid (r9.b ≠ B16) := hide (fun e => hJ9.ri.sep (B16, [.int .i64 (wa.at : Int)]) (by simp) (e ▸ (by simp only [TT.blocks, List.mem_cons, List.mem_append, List.mem_map]; exact .inr (.inr (.inr ⟨r9, hrm, rfl⟩)))))
                      have HH9 := hide hH9
                      have HG := hide (And.intro g2 (And.intro g4 (And.intro g5 g7)))
                      clear hV9 hH9 hJ9 hrm hrg g2 g3 g6 g7 g8
                      have hwat : IntKind.i64.wrap ((wa.at : Int) + 1) = (wa.at : Int) + 1 := by rw [IntKind.wrap_i64]; omega
                      gi_wp2_with (first | go_skip | ((with_reducible show wpListIn _ _ _ _ _ _ _ _); first | ((refine inV (fun _ => trivial) (by rfl) (by intro c h; cases h) (ex_mulW rfl rfl rfl) ?_); simp only [Act.put, n1, n2, n3]) | ((refine inV (fun _ => trivial) (by rfl) (by intro c h; cases h) (ex_addWw rfl rfl rfl hwat) ?_); simp only [Act.put, n1, n2, n3]) | ((refine inV (fun _ => trivial) (by rfl) (by intro c h; cases h) (ex_addW rfl rfl rfl) ?_); simp only [Act.put, n1, n2, n3]) | ((refine inV (fun _ => trivial) (by rfl) (by intro c h; cases h) (ex_lenS9 rfl rfl) ?_); simp only [Act.put, n1, n2, n3]) | ((refine inV (fun _ => trivial) (by rfl) (by intro c h; cases h) (ex_load1 3 Tryd.isAgg3 rfl rfl ((unhide LK).get 3 rfl) rfl) ?_); simp only [Act.put, n1, n2, n3]) | ((refine inV (fun _ => trivial) (by rfl) (by intro c h; cases h) (ex_load1 29 Tryd.isAgg29 rfl rfl ((unhide LK).get 0 rfl) rfl) ?_); simp only [Act.put, n1, n2, n3]) | ((refine inV (fun _ => trivial) (by rfl) (by intro c h; cases h) (ex_load1 4 Tryd.isAgg4 rfl rfl ((unhide LK).get 1 rfl) rfl) ?_); simp only [Act.put, n1, n2, n3]) | ((refine inV (fun _ => trivial) (by rfl) (by intro c h; cases h) (ex_load1 22 Tryd.isAgg22 rfl rfl ((unhide LK).get 2 rfl) rfl) ?_); simp only [Act.put, n1, n2, n3]) | ((refine inV (fun _ => trivial) (by rfl) (by intro c h; cases h) (ex_load1 3 Tryd.isAgg3 rfl rfl ((unhide LK).get 4 rfl) rfl) ?_); simp only [Act.put, n1, n2, n3]) | ((refine inV (fun _ => trivial) (by rfl) (by intro c h; cases h) (ex_load1 9 Tryd.isAgg9 rfl rfl (unhide HH9) rfl) ?_); simp only [Act.put, n1, n2, n3]) | ((refine inV (fun _ => trivial) (by rfl) (by intro c h; cases h) (ex_load1 3 Tryd.isAgg3 rfl rfl (unhide HH9) rfl) ?_); simp only [Act.put, n1, n2, n3]) | ((refine stR (vs := [.int .i64 (hashI wa.n r9.k)]) 3 3 (fun _ => trivial) (by rfl) (by intro c h; cases h) rfl rfl rfl rfl (by simp [Value.oneCell']) siz3 (unhide LK) rfl (Nat.le_refl _) (unhide hB11) ?_); intro Z1 hZ1 hfz1; replace LK := hide hZ1; clear hZ1 hfz1; simp only [Act.put, n1, n2, n3]) | ((refine inV (fun _ => trivial) (by rfl) (by intro c h; cases h) (ex_lenG 22 42 Tryd.underlying22 rfl rfl) ?_); simp only [Act.put, n1, n2, n3])))
                      have LKc : Hid (RK w W9x _ T s9.T ((fun n a => [(B3, [.pointer (some ⟨T.t, 0, none⟩)]), (B5, [.bool true]), (B10, actCs x.kd x.k x.d x.n (.slice IA x.il.length ic)), (B11, [.int .i64 n]), (B16, [.int .i64 a]), (Bn, [.pointer (some ⟨T.t, 0, none⟩)])]) (hashI wa.n r9.k) wa.at) tv xs ds) := hide (by exact unhide LK)
                      clear LK
                      have LK := LKc
                      clear LKc
                      have HCM := hide (compact18 s9.T _ (unhide LK).rj.ri.is (by have := (unhide HG).2.2.2; omega))
                      rw [(unhide LK).rj.ri.tq] at HCM
                      refine ⟨trivial, (callsIn_wide.2 (unhide HCM) : CallsIn Fence.wide _ _ _ _ _ _).mono ?_⟩
                      rintro _ Y8 ⟨rfl, mm9, rv9, hT2, hf2, hb2⟩
                      obtain ⟨Tk, HAK, HRK, HLK, LK2⟩ : ∃ Tk, Hid (abs Tk = wa.s) ∧ Hid (r9 ∈ Tk.rows) ∧ Hid (Tk.last = s9.T.last) ∧ Hid (RK w W9x Y8 T Tk ((fun n a => [(B3, [.pointer (some ⟨T.t, 0, none⟩)]), (B5, [.bool true]), (B10, actCs x.kd x.k x.d x.n (.slice IA x.il.length ic)), (B11, [.int .i64 n]), (B16, [.int .i64 a]), (Bn, [.pointer (some ⟨T.t, 0, none⟩)])]) (hashI wa.n r9.k) wa.at) tv xs ds) := ⟨s9.T.packed mm9 rv9, hide ((abs_same (TT.packed_live _ _ _) rfl).trans (unhide HG).1), HRL, hide rfl, hide ((unhide LK).step hT2 rfl (hf2.mono (fun b hb => .inl (by obtain rfl : b = T.t := (by simpa using hb); rw [← (unhide LK).rj.ri.tq]; simp [TT.blocks]))) hb2)⟩
                      clear hT2 hf2 hb2 HCM LK
                      have LK := LK2
                      clear LK2
                      by_cases hin : wa.at < x.il.length
                      · obtain ⟨y, hy⟩ : ∃ y, x.il[wa.at]? = some y := ⟨_, List.getElem?_eq_getElem hin⟩
                        obtain ⟨hoky, ib, ioff, hIA, hib, hibE, hyr⟩ := (unhide HIN) wa.at y hy
                        subst hIA
                        have HYR : Hid (∀ X, Fr w X T.blocks → X.rangeAt ib (ioff + wa.at * 23) y.cs) := hide (fun X hX => rangeAt_frE hyr hib hibE hX)
                        have HOKY := hide hoky
                        have HINL := hide hin
                        have dat : decide ((wa.at : Int) < (x.il.length : Int)) = true := decide_eq_true (by omega)
                        have HY := hide hy
                        clear hoky hib hibE hyr hin hy
                        by_cases q1 : y.kd = 1
                        · have e1 : (y.kd == 1) = true := by simp [q1]
                          gi_wp2_with (first | go_skip | ((with_reducible show wpListIn _ _ _ _ _ _ _ _); first | ((refine inV (fun _ => trivial) (by rfl) (by intro c h; cases h) (ex_mulW rfl rfl rfl) ?_); simp only [Act.put, n1, n2, n3]) | ((refine inV (fun _ => trivial) (by rfl) (by intro c h; cases h) (ex_addWw rfl rfl rfl hwat) ?_); simp only [Act.put, n1, n2, n3]) | ((refine inV (fun _ => trivial) (by rfl) (by intro c h; cases h) (ex_addW rfl rfl rfl) ?_); simp only [Act.put, n1, n2, n3]) | ((refine inV (fun _ => trivial) (by rfl) (by intro c h; cases h) (ex_lenS9 rfl rfl) ?_); simp only [Act.put, n1, n2, n3]) | ((refine inV (fun _ => trivial) (by rfl) (by intro c h; cases h) (ex_load1 3 Tryd.isAgg3 rfl rfl ((unhide LK).get 3 rfl) rfl) ?_); simp only [Act.put, n1, n2, n3]) | ((refine inV (fun _ => trivial) (by rfl) (by intro c h; cases h) (ex_load1 29 Tryd.isAgg29 rfl rfl ((unhide LK).get 0 rfl) rfl) ?_); simp only [Act.put, n1, n2, n3]) | ((refine inV (fun _ => trivial) (by rfl) (by intro c h; cases h) (ex_load1 4 Tryd.isAgg4 rfl rfl ((unhide LK).get 1 rfl) rfl) ?_); simp only [Act.put, n1, n2, n3]) | ((refine inV (fun _ => trivial) (by rfl) (by intro c h; cases h) (ex_load1 22 Tryd.isAgg22 rfl rfl ((unhide LK).get 2 rfl) rfl) ?_); simp only [Act.put, n1, n2, n3]) | ((refine inV (fun _ => trivial) (by rfl) (by intro c h; cases h) (ex_load1 3 Tryd.isAgg3 rfl rfl ((unhide LK).get 4 rfl) rfl) ?_); simp only [Act.put, n1, n2, n3]) | ((refine inV (fun _ => trivial) (by rfl) (by intro c h; cases h) (ex_load1 9 Tryd.isAgg9 rfl rfl (unhide HH9) rfl) ?_); simp only [Act.put, n1, n2, n3]) | ((refine inV (fun _ => trivial) (by rfl) (by intro c h; cases h) (ex_load1 3 Tryd.isAgg3 rfl rfl (unhide HH9) rfl) ?_); simp only [Act.put, n1, n2, n3]) | ((refine stR (vs := [.int .i64 (hashI wa.n r9.k)]) 3 3 (fun _ => trivial) (by rfl) (by intro c h; cases h) rfl rfl rfl rfl (by simp [Value.oneCell']) siz3 (unhide LK) rfl (Nat.le_refl _) (unhide hB11) ?_); intro Z1 hZ1 hfz1; replace LK := hide hZ1; clear hZ1 hfz1; simp only [Act.put, n1, n2, n3]) | ((refine inV (fun _ => trivial) (by rfl) (by intro c h; cases h) (ex_lenG 22 42 Tryd.underlying22 rfl rfl) ?_); simp only [Act.put, n1, n2, n3]) | ((refine inV (fun _ => trivial) (by rfl) (by intro c h; cases h) (ex_indexG 22 23 wa.at und22 idx22 rfl rfl rfl (unhide HINL)) ?_); simp only [Act.put, n1, n2, n3]) | ((refine inV (fun _ => trivial) (by rfl) (by intro c h; cases h) (ex_loadC 3 Tryd.isAgg3 rfl rfl ((unhide HYR _ (unhide LK).rj.fr) 0 _ rfl)) ?_); simp only [Act.put, n1, n2, n3]) | ((refine inV (fun _ => trivial) (by rfl) (by intro c h; cases h) (ex_loadR (vs := y.k.cs) 34 2 row33x siz33 rfl rfl (act_rangeK (unhide HYR _ (unhide LK).rj.fr)) rfl) ?_); simp only [Act.put, n1, n2, n3])))
                          refine region_round (S := fun X => ∃ T9, RK w W9x X T T9 ((fun n a => [(B3, [.pointer (some ⟨T.t, 0, none⟩)]), (B5, [.bool true]), (B10, actCs x.kd x.k x.d x.n (.slice (some ⟨ib, ioff, none⟩) x.il.length ic)), (B11, [.int .i64 n]), (B16, [.int .i64 a]), (Bn, [.pointer (some ⟨T.t, 0, none⟩)])]) (hashI wa.n r9.k) wa.at) tv xs ds) (by kernel_rfl) (by kernel_rfl) (by rintro ⟨a, w, h⟩; exact h) ?_
                          have hk0 := (unhide LK).on ((Below.refl _ _).drew)
                          have hs0 : ∃ T9, RK w W9x _ T T9 ((fun n a => [(B3, [.pointer (some ⟨T.t, 0, none⟩)]), (B5, [.bool true]), (B10, actCs x.kd x.k x.d x.n (.slice (some ⟨ib, ioff, none⟩) x.il.length ic)), (B11, [.int .i64 n]), (B16, [.int .i64 a]), (Bn, [.pointer (some ⟨T.t, 0, none⟩)])]) (hashI wa.n r9.k) wa.at) tv xs ds := ⟨_, hk0⟩
                          refine gsem 0 (some 110) (.pointer (some ⟨T.t, 0, none⟩)) rfl (by kernel_rfl) (by kernel_rfl) (by kernel_rfl) (fun _ _ _ h => h) (by kernel_rfl) (by kernel_rfl) (fun X hX => by obtain ⟨T9, hR9⟩ := hX; exact ex_load1 29 Tryd.isAgg29 rfl rfl (hR9.get 0 rfl) rfl) hs0 ?_
                          simp only [Act.put, n1, n2, n3]
                          refine gsem 1 (some 111) (.pointer (some ⟨B10, 22, none⟩)) rfl (by kernel_rfl) (by kernel_rfl) (by kernel_rfl) (fun _ _ _ h => h) (by kernel_rfl) (by kernel_rfl) (fun _ _ => by kernel_rfl) hs0 ?_
                          simp only [Act.put, n1, n2, n3]
                          refine gsem 2 (some 112) (.slice (some ⟨ib, ioff, none⟩) x.il.length ic) rfl (by kernel_rfl) (by kernel_rfl) (by kernel_rfl) (fun _ _ _ h => h) (by kernel_rfl) (by kernel_rfl) (fun X hX => by obtain ⟨T9, hR9⟩ := hX; exact ex_load1 22 Tryd.isAgg22 rfl rfl (hR9.get 2 rfl) rfl) hs0 ?_
                          simp only [Act.put, n1, n2, n3]
                          refine gsem 3 (some 113) (.int .i64 (wa.at : Nat)) rfl (by kernel_rfl) (by kernel_rfl) (by kernel_rfl) (fun _ _ _ h => h) (by kernel_rfl) (by kernel_rfl) (fun X hX => by obtain ⟨T9, hR9⟩ := hX; exact ex_load1 3 Tryd.isAgg3 rfl rfl (hR9.get 4 rfl) rfl) hs0 ?_
                          simp only [Act.put, n1, n2, n3]
                          refine gsem 4 (some 114) (.pointer (some ⟨ib, ioff + wa.at * 23, none⟩)) rfl (by kernel_rfl) (by kernel_rfl) (by kernel_rfl) (fun _ _ _ h => h) (by kernel_rfl) (by kernel_rfl) (fun X hX => ex_indexG 22 23 wa.at und22 idx22 rfl rfl rfl (unhide HINL)) hs0 ?_
                          simp only [Act.put, n1, n2, n3]
                          refine gsem 5 (some 115) (.pointer (some ⟨ib, ioff + wa.at * 23 + 1, none⟩)) rfl (by kernel_rfl) (by kernel_rfl) (by kernel_rfl) (fun _ _ _ h => h) (by kernel_rfl) (by kernel_rfl) (fun _ _ => by kernel_rfl) hs0 ?_
                          simp only [Act.put, n1, n2, n3]
                          refine gsem 6 (some 116) (.agg y.k.cs.toArray) rfl (by kernel_rfl) (by kernel_rfl) (by kernel_rfl) (fun _ _ _ h => h) (by kernel_rfl) (by kernel_rfl) (fun X hX => by obtain ⟨T9, hR9⟩ := hX; exact ex_loadR (vs := y.k.cs) 34 2 row33x siz33 rfl rfl (act_rangeK (unhide HYR _ hR9.rj.fr)) rfl) hs0 ?_
                          simp only [Act.put, n1, n2, n3]
                          refine gsem 7 (some 117) (.pointer (some ⟨B10, 22, none⟩)) rfl (by kernel_rfl) (by kernel_rfl) (by kernel_rfl) (fun _ _ _ h => h) (by kernel_rfl) (by kernel_rfl) (fun _ _ => by kernel_rfl) hs0 ?_
                          simp only [Act.put, n1, n2, n3]
                          refine gsem 8 (some 118) (.slice (some ⟨ib, ioff, none⟩) x.il.length ic) rfl (by kernel_rfl) (by kernel_rfl) (by kernel_rfl) (fun _ _ _ h => h) (by kernel_rfl) (by kernel_rfl) (fun X hX => by obtain ⟨T9, hR9⟩ := hX; exact ex_load1 22 Tryd.isAgg22 rfl rfl (hR9.get 2 rfl) rfl) hs0 ?_
                          simp only [Act.put, n1, n2, n3]
                          refine gsem 9 (some 119) (.int .i64 (wa.at : Nat)) rfl (by kernel_rfl) (by kernel_rfl) (by kernel_rfl) (fun _ _ _ h => h) (by kernel_rfl) (by kernel_rfl) (fun X hX => by obtain ⟨T9, hR9⟩ := hX; exact ex_load1 3 Tryd.isAgg3 rfl rfl (hR9.get 4 rfl) rfl) hs0 ?_
                          simp only [Act.put, n1, n2, n3]
                          refine gsem 10 (some 120) (.pointer (some ⟨ib, ioff + wa.at * 23, none⟩)) rfl (by kernel_rfl) (by kernel_rfl) (by kernel_rfl) (fun _ _ _ h => h) (by kernel_rfl) (by kernel_rfl) (fun X hX => ex_indexG 22 23 wa.at und22 idx22 rfl rfl rfl (unhide HINL)) hs0 ?_
                          simp only [Act.put, n1, n2, n3]
                          refine gsem 11 (some 121) (.pointer (some ⟨ib, ioff + wa.at * 23 + 3, none⟩)) rfl (by kernel_rfl) (by kernel_rfl) (by kernel_rfl) (fun _ _ _ h => h) (by kernel_rfl) (by kernel_rfl) (fun _ _ => by kernel_rfl) hs0 ?_
                          simp only [Act.put, n1, n2, n3]
                          refine gsem 12 (some 122) (.agg y.d.cs.toArray) rfl (by kernel_rfl) (by kernel_rfl) (by kernel_rfl) (fun _ _ _ h => h) (by kernel_rfl) (by kernel_rfl) (fun X hX => by obtain ⟨T9, hR9⟩ := hX; exact ex_loadR (vs := y.d.cs) 40 18 row39 siz39 rfl rfl (act_rangeD (unhide HYR _ hR9.rj.fr)) rfl) hs0 ?_
                          simp only [Act.put, n1, n2, n3]
                          have HPT := hide (put12e Tk y.k y.d _ hk0.rj.ri.is (tabs_fr (unhide HU) hk0.rj.fr (unhide H6)) (unhide HOKY) (by have h1 := unhide HLK; have h2 := (unhide HG).2.2.2; omega) (fun b hb => by rcases hk0.rj.ri.new b hb with h | h; exact unhide H6 b h; have := tabs_size (unhide HU); omega))
                          rw [hk0.rj.ri.tq] at HPT
                          refine wpAnyH_ready (rs := [13]) (by kernel_rfl) (by simp) (gcallR 13 (some 123) rfl (by kernel_rfl) (by kernel_rfl) (by kernel_rfl) (unhide HPT) ?_ AllReadyH.nil)
                          rintro _ Y9 ⟨rfl, T2, hT2, ht2, hf2, hb2, hp2⟩
                          have hk2 := hk0.step hT2 (ht2.trans hk0.rj.ri.tq.symm) hf2 hb2
                          refine ⟨_, rfl, ⟨_, hk2⟩, ?_⟩
                          simp only [Act.put, n1, n2, n3]
                          refine wpAnyH_done (by kernel_rfl) ?_ _
                          try simp only [Act.put, n1, n2, n3]
                          have HAI : Hid (abs T2 = innerA x.il wa.at wa.s) := hide (by unfold innerA; rw [unhide HY]; dsimp only; rw [if_pos q1, abs_put hk0.rj.ri.is hp2, unhide HAK])
                          have HNU0 := hide (put_num hp2 hT2 (unhide HRK))
                          have HL2 : Hid (T2.last ≤ s9.T.last + 1) := hide (by have h1 := hp2.last; have := unhide HLK; omega)
                          have HL3 : Hid (s9.T.last ≤ T2.last) := hide (by have h1 := hp2.grows; have := unhide HLK; omega)
                          replace LK := hide hk2
                          clear hT2 ht2 hf2 hb2 hp2 hk2 hk0 hs0 HPT q1
                          by_cases h200 : 200 < wa.at + 1
                          · have hgt : (200 : Int) < (wa.at : Int) + 1 := by omega
                            have hE : FIN = stepA x.il wa (enOf r9) := by have := unhide HFN; rw [if_pos h200] at this; exact this.symm
                            subst hE
                            gi_wp2_with (first | go_skip | ((with_reducible show wpListIn _ _ _ _ _ _ _ _); first | ((refine inV (fun _ => trivial) (by rfl) (by intro c h; cases h) (ex_addWw rfl rfl rfl hwat) ?_); simp only [Act.put, n1, n2, n3]) | ((refine inV (fun _ => trivial) (by rfl) (by intro c h; cases h) (ex_load1 3 Tryd.isAgg3 rfl rfl ((unhide LK).get 4 rfl) rfl) ?_); simp only [Act.put, n1, n2, n3]) | ((refine stR (vs := [.int .i64 ((wa.at : Int) + 1)]) 4 3 (fun _ => trivial) (by rfl) (by intro c h; cases h) rfl rfl rfl rfl (by simp [Value.oneCell']) siz3 (unhide LK) rfl (Nat.le_refl _) (unhide hB16) ?_); intro Z2 hZ2 hfz2; have HNU := HNU0; replace LK := hide hZ2; have HNU2 := hide ((World.cell?_of_block (a := ⟨r9.b, 20, none⟩) (hfz2.block r9.b (cell_lt (unhide HNU)) (by simpa using unhide HNE))).trans (unhide HNU)); clear hZ2 hfz2; simp only [Act.put, n1, n2, n3])))
                            exact ⟨(unhide LK).kl, rfl, T2, (unhide LK).rj, unhide HAI⟩
                          · have hgt : ¬ (200 : Int) < (wa.at : Int) + 1 := by omega
                            have HE : Hid (walkA x.il (s9.left - 1) (stepA x.il wa (enOf r9)) = FIN) := hide (by have := unhide HFN; rw [if_neg h200] at this; exact this)
                            gi_wp2_with (first | go_skip | ((with_reducible show wpListIn _ _ _ _ _ _ _ _); first | ((refine inV (fun _ => trivial) (by rfl) (by intro c h; cases h) (ex_addWw rfl rfl rfl hwat) ?_); simp only [Act.put, n1, n2, n3]) | ((refine inV (fun _ => trivial) (by rfl) (by intro c h; cases h) (ex_load1 3 Tryd.isAgg3 rfl rfl ((unhide LK).get 4 rfl) rfl) ?_); simp only [Act.put, n1, n2, n3]) | ((refine stR (vs := [.int .i64 ((wa.at : Int) + 1)]) 4 3 (fun _ => trivial) (by rfl) (by intro c h; cases h) rfl rfl rfl rfl (by simp [Value.oneCell']) siz3 (unhide LK) rfl (Nat.le_refl _) (unhide hB16) ?_); intro Z2 hZ2 hfz2; have HNU := HNU0; replace LK := hide hZ2; have HNU2 := hide ((World.cell?_of_block (a := ⟨r9.b, 20, none⟩) (hfz2.block r9.b (cell_lt (unhide HNU)) (by simpa using unhide HNE))).trans (unhide HNU)); clear hZ2 hfz2; simp only [Act.put, n1, n2, n3])))
                            exact ⟨(unhide LK).kl, ⟨T2, r9.n, some r9.b, s9.left - 1⟩, ⟨rfl, rfl, by have := (unhide HG).2.1; show s9.left - 1 < s9.left; omega⟩, stepA x.il wa (enOf r9), (unhide LK).rj, unhide HAI, rfl, by have := (unhide HG).2.1; show s9.left - 1 + (wa.at + 1) = 201; omega, by show wa.at + 1 ≤ 200; omega, unhide HE, by have h1 := unhide HL2; have h2 := (unhide HG).2.2.2; have h3 := (unhide HG).2.1; show T2.last + (s9.left - 1) < 99300; omega, Nat.le_trans (unhide HRN) (unhide HL3), fun b hb => by cases hb; exact unhide HNU2⟩
                        · by_cases q2 : y.kd = 2
                          · have e1 : (y.kd == 1) = false := by simp [q1]
                            have e2 : (y.kd == 2) = true := by simp [q2]
                            gi_wp2_with (first | go_skip | ((with_reducible show wpListIn _ _ _ _ _ _ _ _); first | ((refine inV (fun _ => trivial) (by rfl) (by intro c h; cases h) (ex_mulW rfl rfl rfl) ?_); simp only [Act.put, n1, n2, n3]) | ((refine inV (fun _ => trivial) (by rfl) (by intro c h; cases h) (ex_addWw rfl rfl rfl hwat) ?_); simp only [Act.put, n1, n2, n3]) | ((refine inV (fun _ => trivial) (by rfl) (by intro c h; cases h) (ex_addW rfl rfl rfl) ?_); simp only [Act.put, n1, n2, n3]) | ((refine inV (fun _ => trivial) (by rfl) (by intro c h; cases h) (ex_lenS9 rfl rfl) ?_); simp only [Act.put, n1, n2, n3]) | ((refine inV (fun _ => trivial) (by rfl) (by intro c h; cases h) (ex_load1 3 Tryd.isAgg3 rfl rfl ((unhide LK).get 3 rfl) rfl) ?_); simp only [Act.put, n1, n2, n3]) | ((refine inV (fun _ => trivial) (by rfl) (by intro c h; cases h) (ex_load1 29 Tryd.isAgg29 rfl rfl ((unhide LK).get 0 rfl) rfl) ?_); simp only [Act.put, n1, n2, n3]) | ((refine inV (fun _ => trivial) (by rfl) (by intro c h; cases h) (ex_load1 4 Tryd.isAgg4 rfl rfl ((unhide LK).get 1 rfl) rfl) ?_); simp only [Act.put, n1, n2, n3]) | ((refine inV (fun _ => trivial) (by rfl) (by intro c h; cases h) (ex_load1 22 Tryd.isAgg22 rfl rfl ((unhide LK).get 2 rfl) rfl) ?_); simp only [Act.put, n1, n2, n3]) | ((refine inV (fun _ => trivial) (by rfl) (by intro c h; cases h) (ex_load1 3 Tryd.isAgg3 rfl rfl ((unhide LK).get 4 rfl) rfl) ?_); simp only [Act.put, n1, n2, n3]) | ((refine inV (fun _ => trivial) (by rfl) (by intro c h; cases h) (ex_load1 9 Tryd.isAgg9 rfl rfl (unhide HH9) rfl) ?_); simp only [Act.put, n1, n2, n3]) | ((refine inV (fun _ => trivial) (by rfl) (by intro c h; cases h) (ex_load1 3 Tryd.isAgg3 rfl rfl (unhide HH9) rfl) ?_); simp only [Act.put, n1, n2, n3]) | ((refine stR (vs := [.int .i64 (hashI wa.n r9.k)]) 3 3 (fun _ => trivial) (by rfl) (by intro c h; cases h) rfl rfl rfl rfl (by simp [Value.oneCell']) siz3 (unhide LK) rfl (Nat.le_refl _) (unhide hB11) ?_); intro Z1 hZ1 hfz1; replace LK := hide hZ1; clear hZ1 hfz1; simp only [Act.put, n1, n2, n3]) | ((refine inV (fun _ => trivial) (by rfl) (by intro c h; cases h) (ex_lenG 22 42 Tryd.underlying22 rfl rfl) ?_); simp only [Act.put, n1, n2, n3]) | ((refine inV (fun _ => trivial) (by rfl) (by intro c h; cases h) (ex_indexG 22 23 wa.at und22 idx22 rfl rfl rfl (unhide HINL)) ?_); simp only [Act.put, n1, n2, n3]) | ((refine inV (fun _ => trivial) (by rfl) (by intro c h; cases h) (ex_loadC 3 Tryd.isAgg3 rfl rfl ((unhide HYR _ (unhide LK).rj.fr) 0 _ rfl)) ?_); simp only [Act.put, n1, n2, n3]) | ((refine inV (fun _ => trivial) (by rfl) (by intro c h; cases h) (ex_loadR (vs := y.k.cs) 34 2 row33x siz33 rfl rfl (act_rangeK (unhide HYR _ (unhide LK).rj.fr)) rfl) ?_); simp only [Act.put, n1, n2, n3])))
                            refine region_round (S := fun X => ∃ T9, RK w W9x X T T9 ((fun n a => [(B3, [.pointer (some ⟨T.t, 0, none⟩)]), (B5, [.bool true]), (B10, actCs x.kd x.k x.d x.n (.slice (some ⟨ib, ioff, none⟩) x.il.length ic)), (B11, [.int .i64 n]), (B16, [.int .i64 a]), (Bn, [.pointer (some ⟨T.t, 0, none⟩)])]) (hashI wa.n r9.k) wa.at) tv xs ds) (by kernel_rfl) (by kernel_rfl) (by rintro ⟨a, w, h⟩; exact h) ?_
                            have hk0 := (unhide LK).on ((Below.refl _ _).drew)
                            have hs0 : ∃ T9, RK w W9x _ T T9 ((fun n a => [(B3, [.pointer (some ⟨T.t, 0, none⟩)]), (B5, [.bool true]), (B10, actCs x.kd x.k x.d x.n (.slice (some ⟨ib, ioff, none⟩) x.il.length ic)), (B11, [.int .i64 n]), (B16, [.int .i64 a]), (Bn, [.pointer (some ⟨T.t, 0, none⟩)])]) (hashI wa.n r9.k) wa.at) tv xs ds := ⟨_, hk0⟩
                            refine gsem 0 (some 126) (.pointer (some ⟨T.t, 0, none⟩)) rfl (by kernel_rfl) (by kernel_rfl) (by kernel_rfl) (fun _ _ _ h => h) (by kernel_rfl) (by kernel_rfl) (fun X hX => by obtain ⟨T9, hR9⟩ := hX; exact ex_load1 29 Tryd.isAgg29 rfl rfl (hR9.get 0 rfl) rfl) hs0 ?_
                            simp only [Act.put, n1, n2, n3]
                            refine gsem 1 (some 127) (.pointer (some ⟨B10, 22, none⟩)) rfl (by kernel_rfl) (by kernel_rfl) (by kernel_rfl) (fun _ _ _ h => h) (by kernel_rfl) (by kernel_rfl) (fun _ _ => by kernel_rfl) hs0 ?_
                            simp only [Act.put, n1, n2, n3]
                            refine gsem 2 (some 128) (.slice (some ⟨ib, ioff, none⟩) x.il.length ic) rfl (by kernel_rfl) (by kernel_rfl) (by kernel_rfl) (fun _ _ _ h => h) (by kernel_rfl) (by kernel_rfl) (fun X hX => by obtain ⟨T9, hR9⟩ := hX; exact ex_load1 22 Tryd.isAgg22 rfl rfl (hR9.get 2 rfl) rfl) hs0 ?_
                            simp only [Act.put, n1, n2, n3]
                            refine gsem 3 (some 129) (.int .i64 (wa.at : Nat)) rfl (by kernel_rfl) (by kernel_rfl) (by kernel_rfl) (fun _ _ _ h => h) (by kernel_rfl) (by kernel_rfl) (fun X hX => by obtain ⟨T9, hR9⟩ := hX; exact ex_load1 3 Tryd.isAgg3 rfl rfl (hR9.get 4 rfl) rfl) hs0 ?_
                            simp only [Act.put, n1, n2, n3]
                            refine gsem 4 (some 130) (.pointer (some ⟨ib, ioff + wa.at * 23, none⟩)) rfl (by kernel_rfl) (by kernel_rfl) (by kernel_rfl) (fun _ _ _ h => h) (by kernel_rfl) (by kernel_rfl) (fun X hX => ex_indexG 22 23 wa.at und22 idx22 rfl rfl rfl (unhide HINL)) hs0 ?_
                            simp only [Act.put, n1, n2, n3]
                            refine gsem 5 (some 131) (.pointer (some ⟨ib, ioff + wa.at * 23 + 1, none⟩)) rfl (by kernel_rfl) (by kernel_rfl) (by kernel_rfl) (fun _ _ _ h => h) (by kernel_rfl) (by kernel_rfl) (fun _ _ => by kernel_rfl) hs0 ?_
                            simp only [Act.put, n1, n2, n3]
                            refine gsem 6 (some 132) (.agg y.k.cs.toArray) rfl (by kernel_rfl) (by kernel_rfl) (by kernel_rfl) (fun _ _ _ h => h) (by kernel_rfl) (by kernel_rfl) (fun X hX => by obtain ⟨T9, hR9⟩ := hX; exact ex_loadR (vs := y.k.cs) 34 2 row33x siz33 rfl rfl (act_rangeK (unhide HYR _ hR9.rj.fr)) rfl) hs0 ?_
                            simp only [Act.put, n1, n2, n3]
                            have HDL := hide (deleteN Tk y.k _ hk0.rj.ri.is (unhide HOKY) (by have h1 := unhide HLK; have h2 := (unhide HG).2.2.2; omega))
                            rw [hk0.rj.ri.tq] at HDL
                            refine wpAnyH_ready (rs := [7]) (by kernel_rfl) (by simp) (gcallR 7 (some 133) rfl (by kernel_rfl) (by kernel_rfl) (by kernel_rfl) (unhide HDL) ?_ AllReadyH.nil)
                            rintro _ Y9 ⟨rfl, T2, hT2, ht2, hn2, hf2, hb2, hl2, hnum⟩
                            have hk2 := hk0.step hT2 (ht2.trans hk0.rj.ri.tq.symm) hf2 hb2
                            refine ⟨_, rfl, ⟨_, hk2⟩, ?_⟩
                            simp only [Act.put, n1, n2, n3]
                            refine wpAnyH_done (by kernel_rfl) ?_ _
                            try simp only [Act.put, n1, n2, n3]
                            have HAI : Hid (abs T2 = innerA x.il wa.at wa.s) := hide (by unfold innerA; rw [unhide HY]; dsimp only; rw [if_neg q1, if_pos q2, abs_del hl2 hn2, unhide HAK])
                            have HNU0 := hide (hnum r9 (unhide HRK))
                            have HL2 : Hid (T2.last ≤ s9.T.last + 1) := hide (by have := unhide HLK; omega)
                            have HL3 : Hid (s9.T.last ≤ T2.last) := hide (by have := unhide HLK; omega)
                            replace LK := hide hk2
                            clear hT2 ht2 hn2 hf2 hb2 hl2 hnum hk2 hk0 hs0 HDL q1 q2
                            by_cases h200 : 200 < wa.at + 1
                            · have hgt : (200 : Int) < (wa.at : Int) + 1 := by omega
                              have hE : FIN = stepA x.il wa (enOf r9) := by have := unhide HFN; rw [if_pos h200] at this; exact this.symm
                              subst hE
                              gi_wp2_with (first | go_skip | ((with_reducible show wpListIn _ _ _ _ _ _ _ _); first | ((refine inV (fun _ => trivial) (by rfl) (by intro c h; cases h) (ex_addWw rfl rfl rfl hwat) ?_); simp only [Act.put, n1, n2, n3]) | ((refine inV (fun _ => trivial) (by rfl) (by intro c h; cases h) (ex_load1 3 Tryd.isAgg3 rfl rfl ((unhide LK).get 4 rfl) rfl) ?_); simp only [Act.put, n1, n2, n3]) | ((refine stR (vs := [.int .i64 ((wa.at : Int) + 1)]) 4 3 (fun _ => trivial) (by rfl) (by intro c h; cases h) rfl rfl rfl rfl (by simp [Value.oneCell']) siz3 (unhide LK) rfl (Nat.le_refl _) (unhide hB16) ?_); intro Z2 hZ2 hfz2; have HNU := HNU0; replace LK := hide hZ2; have HNU2 := hide ((World.cell?_of_block (a := ⟨r9.b, 20, none⟩) (hfz2.block r9.b (cell_lt (unhide HNU)) (by simpa using unhide HNE))).trans (unhide HNU)); clear hZ2 hfz2; simp only [Act.put, n1, n2, n3])))
                              exact ⟨(unhide LK).kl, rfl, T2, (unhide LK).rj, unhide HAI⟩
                            · have hgt : ¬ (200 : Int) < (wa.at : Int) + 1 := by omega
                              have HE : Hid (walkA x.il (s9.left - 1) (stepA x.il wa (enOf r9)) = FIN) := hide (by have := unhide HFN; rw [if_neg h200] at this; exact this)
                              gi_wp2_with (first | go_skip | ((with_reducible show wpListIn _ _ _ _ _ _ _ _); first | ((refine inV (fun _ => trivial) (by rfl) (by intro c h; cases h) (ex_addWw rfl rfl rfl hwat) ?_); simp only [Act.put, n1, n2, n3]) | ((refine inV (fun _ => trivial) (by rfl) (by intro c h; cases h) (ex_load1 3 Tryd.isAgg3 rfl rfl ((unhide LK).get 4 rfl) rfl) ?_); simp only [Act.put, n1, n2, n3]) | ((refine stR (vs := [.int .i64 ((wa.at : Int) + 1)]) 4 3 (fun _ => trivial) (by rfl) (by intro c h; cases h) rfl rfl rfl rfl (by simp [Value.oneCell']) siz3 (unhide LK) rfl (Nat.le_refl _) (unhide hB16) ?_); intro Z2 hZ2 hfz2; have HNU := HNU0; replace LK := hide hZ2; have HNU2 := hide ((World.cell?_of_block (a := ⟨r9.b, 20, none⟩) (hfz2.block r9.b (cell_lt (unhide HNU)) (by simpa using unhide HNE))).trans (unhide HNU)); clear hZ2 hfz2; simp only [Act.put, n1, n2, n3])))
                              exact ⟨(unhide LK).kl, ⟨T2, r9.n, some r9.b, s9.left - 1⟩, ⟨rfl, rfl, by have := (unhide HG).2.1; show s9.left - 1 < s9.left; omega⟩, stepA x.il wa (enOf r9), (unhide LK).rj, unhide HAI, rfl, by have := (unhide HG).2.1; show s9.left - 1 + (wa.at + 1) = 201; omega, by show wa.at + 1 ≤ 200; omega, unhide HE, by have h1 := unhide HL2; have h2 := (unhide HG).2.2.2; have h3 := (unhide HG).2.1; show T2.last + (s9.left - 1) < 99300; omega, Nat.le_trans (unhide HRN) (unhide HL3), fun b hb => by cases hb; exact unhide HNU2⟩
                          · have e1 : (y.kd == 1) = false := by simp [q1]
                            have e2 : (y.kd == 2) = false := by simp [q2]
                            have HAI : Hid (abs Tk = innerA x.il wa.at wa.s) := hide (by unfold innerA; rw [unhide HY]; dsimp only; rw [if_neg q1, if_neg q2]; exact unhide HAK)
                            clear q1 q2
                            have HL2 : Hid (Tk.last ≤ s9.T.last + 1) := hide (by have := unhide HLK; omega)
                            have HL3 : Hid (s9.T.last ≤ Tk.last) := hide (by have := unhide HLK; omega)
                            by_cases h200 : 200 < wa.at + 1
                            · have hgt : (200 : Int) < (wa.at : Int) + 1 := by omega
                              have hE : FIN = stepA x.il wa (enOf r9) := by have := unhide HFN; rw [if_pos h200] at this; exact this.symm
                              subst hE
                              gi_wp2_with (first | go_skip | ((with_reducible show wpListIn _ _ _ _ _ _ _ _); first | ((refine inV (fun _ => trivial) (by rfl) (by intro c h; cases h) (ex_mulW rfl rfl rfl) ?_); simp only [Act.put, n1, n2, n3]) | ((refine inV (fun _ => trivial) (by rfl) (by intro c h; cases h) (ex_addWw rfl rfl rfl hwat) ?_); simp only [Act.put, n1, n2, n3]) | ((refine inV (fun _ => trivial) (by rfl) (by intro c h; cases h) (ex_addW rfl rfl rfl) ?_); simp only [Act.put, n1, n2, n3]) | ((refine inV (fun _ => trivial) (by rfl) (by intro c h; cases h) (ex_lenS9 rfl rfl) ?_); simp only [Act.put, n1, n2, n3]) | ((refine inV (fun _ => trivial) (by rfl) (by intro c h; cases h) (ex_load1 3 Tryd.isAgg3 rfl rfl ((unhide LK).get 3 rfl) rfl) ?_); simp only [Act.put, n1, n2, n3]) | ((refine inV (fun _ => trivial) (by rfl) (by intro c h; cases h) (ex_load1 29 Tryd.isAgg29 rfl rfl ((unhide LK).get 0 rfl) rfl) ?_); simp only [Act.put, n1, n2, n3]) | ((refine inV (fun _ => trivial) (by rfl) (by intro c h; cases h) (ex_load1 4 Tryd.isAgg4 rfl rfl ((unhide LK).get 1 rfl) rfl) ?_); simp only [Act.put, n1, n2, n3]) | ((refine inV (fun _ => trivial) (by rfl) (by intro c h; cases h) (ex_load1 22 Tryd.isAgg22 rfl rfl ((unhide LK).get 2 rfl) rfl) ?_); simp only [Act.put, n1, n2, n3]) | ((refine inV (fun _ => trivial) (by rfl) (by intro c h; cases h) (ex_load1 3 Tryd.isAgg3 rfl rfl ((unhide LK).get 4 rfl) rfl) ?_); simp only [Act.put, n1, n2, n3]) | ((refine inV (fun _ => trivial) (by rfl) (by intro c h; cases h) (ex_load1 9 Tryd.isAgg9 rfl rfl (unhide HH9) rfl) ?_); simp only [Act.put, n1, n2, n3]) | ((refine inV (fun _ => trivial) (by rfl) (by intro c h; cases h) (ex_load1 3 Tryd.isAgg3 rfl rfl (unhide HH9) rfl) ?_); simp only [Act.put, n1, n2, n3]) | ((refine stR (vs := [.int .i64 (hashI wa.n r9.k)]) 3 3 (fun _ => trivial) (by rfl) (by intro c h; cases h) rfl rfl rfl rfl (by simp [Value.oneCell']) siz3 (unhide LK) rfl (Nat.le_refl _) (unhide hB11) ?_); intro Z1 hZ1 hfz1; replace LK := hide hZ1; clear hZ1 hfz1; simp only [Act.put, n1, n2, n3]) | ((refine inV (fun _ => trivial) (by rfl) (by intro c h; cases h) (ex_lenG 22 42 Tryd.underlying22 rfl rfl) ?_); simp only [Act.put, n1, n2, n3]) | ((refine inV (fun _ => trivial) (by rfl) (by intro c h; cases h) (ex_indexG 22 23 wa.at und22 idx22 rfl rfl rfl (unhide HINL)) ?_); simp only [Act.put, n1, n2, n3]) | ((refine inV (fun _ => trivial) (by rfl) (by intro c h; cases h) (ex_loadC 3 Tryd.isAgg3 rfl rfl ((unhide HYR _ (unhide LK).rj.fr) 0 _ rfl)) ?_); simp only [Act.put, n1, n2, n3]) | ((refine inV (fun _ => trivial) (by rfl) (by intro c h; cases h) (ex_loadR (vs := y.k.cs) 34 2 row33x siz33 rfl rfl (act_rangeK (unhide HYR _ (unhide LK).rj.fr)) rfl) ?_); simp only [Act.put, n1, n2, n3]) | ((refine inV (fun _ => trivial) (by rfl) (by intro c h; cases h) (ex_load1 3 Tryd.isAgg3 rfl rfl ((unhide LK).get 4 rfl) rfl) ?_); simp only [Act.put, n1, n2, n3]) | ((refine stR (vs := [.int .i64 ((wa.at : Int) + 1)]) 4 3 (fun _ => trivial) (by rfl) (by intro c h; cases h) rfl rfl rfl rfl (by simp [Value.oneCell']) siz3 (unhide LK) rfl (Nat.le_refl _) (unhide hB16) ?_); intro Z2 hZ2 hfz2; have HNU := hide (num_cell ((unhide LK).rj.ri.is.rows r9 (unhide HRK))); replace LK := hide hZ2; have HNU2 := hide ((World.cell?_of_block (a := ⟨r9.b, 20, none⟩) (hfz2.block r9.b (cell_lt (unhide HNU)) (by simpa using unhide HNE))).trans (unhide HNU)); clear hZ2 hfz2; simp only [Act.put, n1, n2, n3])))
                              exact ⟨(unhide LK).kl, rfl, Tk, (unhide LK).rj, unhide HAI⟩
                            · have hgt : ¬ (200 : Int) < (wa.at : Int) + 1 := by omega
                              have HE : Hid (walkA x.il (s9.left - 1) (stepA x.il wa (enOf r9)) = FIN) := hide (by have := unhide HFN; rw [if_neg h200] at this; exact this)
                              gi_wp2_with (first | go_skip | ((with_reducible show wpListIn _ _ _ _ _ _ _ _); first | ((refine inV (fun _ => trivial) (by rfl) (by intro c h; cases h) (ex_mulW rfl rfl rfl) ?_); simp only [Act.put, n1, n2, n3]) | ((refine inV (fun _ => trivial) (by rfl) (by intro c h; cases h) (ex_addWw rfl rfl rfl hwat) ?_); simp only [Act.put, n1, n2, n3]) | ((refine inV (fun _ => trivial) (by rfl) (by intro c h; cases h) (ex_addW rfl rfl rfl) ?_); simp only [Act.put, n1, n2, n3]) | ((refine inV (fun _ => trivial) (by rfl) (by intro c h; cases h) (ex_lenS9 rfl rfl) ?_); simp only [Act.put, n1, n2, n3]) | ((refine inV (fun _ => trivial) (by rfl) (by intro c h; cases h) (ex_load1 3 Tryd.isAgg3 rfl rfl ((unhide LK).get 3 rfl) rfl) ?_); simp only [Act.put, n1, n2, n3]) | ((refine inV (fun _ => trivial) (by rfl) (by intro c h; cases h) (ex_load1 29 Tryd.isAgg29 rfl rfl ((unhide LK).get 0 rfl) rfl) ?_); simp only [Act.put, n1, n2, n3]) | ((refine inV (fun _ => trivial) (by rfl) (by intro c h; cases h) (ex_load1 4 Tryd.isAgg4 rfl rfl ((unhide LK).get 1 rfl) rfl) ?_); simp only [Act.put, n1, n2, n3]) | ((refine inV (fun _ => trivial) (by rfl) (by intro c h; cases h) (ex_load1 22 Tryd.isAgg22 rfl rfl ((unhide LK).get 2 rfl) rfl) ?_); simp only [Act.put, n1, n2, n3]) | ((refine inV (fun _ => trivial) (by rfl) (by intro c h; cases h) (ex_load1 3 Tryd.isAgg3 rfl rfl ((unhide LK).get 4 rfl) rfl) ?_); simp only [Act.put, n1, n2, n3]) | ((refine inV (fun _ => trivial) (by rfl) (by intro c h; cases h) (ex_load1 9 Tryd.isAgg9 rfl rfl (unhide HH9) rfl) ?_); simp only [Act.put, n1, n2, n3]) | ((refine inV (fun _ => trivial) (by rfl) (by intro c h; cases h) (ex_load1 3 Tryd.isAgg3 rfl rfl (unhide HH9) rfl) ?_); simp only [Act.put, n1, n2, n3]) | ((refine stR (vs := [.int .i64 (hashI wa.n r9.k)]) 3 3 (fun _ => trivial) (by rfl) (by intro c h; cases h) rfl rfl rfl rfl (by simp [Value.oneCell']) siz3 (unhide LK) rfl (Nat.le_refl _) (unhide hB11) ?_); intro Z1 hZ1 hfz1; replace LK := hide hZ1; clear hZ1 hfz1; simp only [Act.put, n1, n2, n3]) | ((refine inV (fun _ => trivial) (by rfl) (by intro c h; cases h) (ex_lenG 22 42 Tryd.underlying22 rfl rfl) ?_); simp only [Act.put, n1, n2, n3]) | ((refine inV (fun _ => trivial) (by rfl) (by intro c h; cases h) (ex_indexG 22 23 wa.at und22 idx22 rfl rfl rfl (unhide HINL)) ?_); simp only [Act.put, n1, n2, n3]) | ((refine inV (fun _ => trivial) (by rfl) (by intro c h; cases h) (ex_loadC 3 Tryd.isAgg3 rfl rfl ((unhide HYR _ (unhide LK).rj.fr) 0 _ rfl)) ?_); simp only [Act.put, n1, n2, n3]) | ((refine inV (fun _ => trivial) (by rfl) (by intro c h; cases h) (ex_loadR (vs := y.k.cs) 34 2 row33x siz33 rfl rfl (act_rangeK (unhide HYR _ (unhide LK).rj.fr)) rfl) ?_); simp only [Act.put, n1, n2, n3]) | ((refine inV (fun _ => trivial) (by rfl) (by intro c h; cases h) (ex_load1 3 Tryd.isAgg3 rfl rfl ((unhide LK).get 4 rfl) rfl) ?_); simp only [Act.put, n1, n2, n3]) | ((refine stR (vs := [.int .i64 ((wa.at : Int) + 1)]) 4 3 (fun _ => trivial) (by rfl) (by intro c h; cases h) rfl rfl rfl rfl (by simp [Value.oneCell']) siz3 (unhide LK) rfl (Nat.le_refl _) (unhide hB16) ?_); intro Z2 hZ2 hfz2; have HNU := hide (num_cell ((unhide LK).rj.ri.is.rows r9 (unhide HRK))); replace LK := hide hZ2; have HNU2 := hide ((World.cell?_of_block (a := ⟨r9.b, 20, none⟩) (hfz2.block r9.b (cell_lt (unhide HNU)) (by simpa using unhide HNE))).trans (unhide HNU)); clear hZ2 hfz2; simp only [Act.put, n1, n2, n3])))
                              exact ⟨(unhide LK).kl, ⟨Tk, r9.n, some r9.b, s9.left - 1⟩, ⟨rfl, rfl, by have := (unhide HG).2.1; show s9.left - 1 < s9.left; omega⟩, stepA x.il wa (enOf r9), (unhide LK).rj, unhide HAI, rfl, by have := (unhide HG).2.1; show s9.left - 1 + (wa.at + 1) = 201; omega, by show wa.at + 1 ≤ 200; omega, unhide HE, by have h1 := unhide HL2; have h2 := (unhide HG).2.2.2; have h3 := (unhide HG).2.1; show Tk.last + (s9.left - 1) < 99300; omega, Nat.le_trans (unhide HRN) (unhide HL3), fun b hb => by cases hb; exact unhide HNU2⟩
                      · have dat : decide ((wa.at : Int) < (x.il.length : Int)) = false := decide_eq_false (by omega)
                        have HAI : Hid (abs Tk = innerA x.il wa.at wa.s) := hide (by rw [unhide HAK]; unfold innerA; rw [List.getElem?_eq_none (by omega)])
                        have HL2 : Hid (Tk.last ≤ s9.T.last + 1) := hide (by have := unhide HLK; omega)
                        have HL3 : Hid (s9.T.last ≤ Tk.last) := hide (by have := unhide HLK; omega)
                        by_cases h200 : 200 < wa.at + 1
                        · have hgt : (200 : Int) < (wa.at : Int) + 1 := by omega
                          have hE : FIN = stepA x.il wa (enOf r9) := by have := unhide HFN; rw [if_pos h200] at this; exact this.symm
                          subst hE
                          gi_wp2_with (first | go_skip | ((with_reducible show wpListIn _ _ _ _ _ _ _ _); first | ((refine inV (fun _ => trivial) (by rfl) (by intro c h; cases h) (ex_mulW rfl rfl rfl) ?_); simp only [Act.put, n1, n2, n3]) | ((refine inV (fun _ => trivial) (by rfl) (by intro c h; cases h) (ex_addWw rfl rfl rfl hwat) ?_); simp only [Act.put, n1, n2, n3]) | ((refine inV (fun _ => trivial) (by rfl) (by intro c h; cases h) (ex_addW rfl rfl rfl) ?_); simp only [Act.put, n1, n2, n3]) | ((refine inV (fun _ => trivial) (by rfl) (by intro c h; cases h) (ex_lenS9 rfl rfl) ?_); simp only [Act.put, n1, n2, n3]) | ((refine inV (fun _ => trivial) (by rfl) (by intro c h; cases h) (ex_load1 3 Tryd.isAgg3 rfl rfl ((unhide LK).get 3 rfl) rfl) ?_); simp only [Act.put, n1, n2, n3]) | ((refine inV (fun _ => trivial) (by rfl) (by intro c h; cases h) (ex_load1 29 Tryd.isAgg29 rfl rfl ((unhide LK).get 0 rfl) rfl) ?_); simp only [Act.put, n1, n2, n3]) | ((refine inV (fun _ => trivial) (by rfl) (by intro c h; cases h) (ex_load1 4 Tryd.isAgg4 rfl rfl ((unhide LK).get 1 rfl) rfl) ?_); simp only [Act.put, n1, n2, n3]) | ((refine inV (fun _ => trivial) (by rfl) (by intro c h; cases h) (ex_load1 22 Tryd.isAgg22 rfl rfl ((unhide LK).get 2 rfl) rfl) ?_); simp only [Act.put, n1, n2, n3]) | ((refine inV (fun _ => trivial) (by rfl) (by intro c h; cases h) (ex_load1 3 Tryd.isAgg3 rfl rfl ((unhide LK).get 4 rfl) rfl) ?_); simp only [Act.put, n1, n2, n3]) | ((refine inV (fun _ => trivial) (by rfl) (by intro c h; cases h) (ex_load1 9 Tryd.isAgg9 rfl rfl (unhide HH9) rfl) ?_); simp only [Act.put, n1, n2, n3]) | ((refine inV (fun _ => trivial) (by rfl) (by intro c h; cases h) (ex_load1 3 Tryd.isAgg3 rfl rfl (unhide HH9) rfl) ?_); simp only [Act.put, n1, n2, n3]) | ((refine stR (vs := [.int .i64 (hashI wa.n r9.k)]) 3 3 (fun _ => trivial) (by rfl) (by intro c h; cases h) rfl rfl rfl rfl (by simp [Value.oneCell']) siz3 (unhide LK) rfl (Nat.le_refl _) (unhide hB11) ?_); intro Z1 hZ1 hfz1; replace LK := hide hZ1; clear hZ1 hfz1; simp only [Act.put, n1, n2, n3]) | ((refine inV (fun _ => trivial) (by rfl) (by intro c h; cases h) (ex_lenG 22 42 Tryd.underlying22 rfl rfl) ?_); simp only [Act.put, n1, n2, n3]) | ((refine inV (fun _ => trivial) (by rfl) (by intro c h; cases h) (ex_addWw rfl rfl rfl hwat) ?_); simp only [Act.put, n1, n2, n3]) | ((refine inV (fun _ => trivial) (by rfl) (by intro c h; cases h) (ex_load1 3 Tryd.isAgg3 rfl rfl ((unhide LK).get 4 rfl) rfl) ?_); simp only [Act.put, n1, n2, n3]) | ((refine stR (vs := [.int .i64 ((wa.at : Int) + 1)]) 4 3 (fun _ => trivial) (by rfl) (by intro c h; cases h) rfl rfl rfl rfl (by simp [Value.oneCell']) siz3 (unhide LK) rfl (Nat.le_refl _) (unhide hB16) ?_); intro Z2 hZ2 hfz2; have HNU := hide (num_cell ((unhide LK).rj.ri.is.rows r9 (unhide HRK))); replace LK := hide hZ2; have HNU2 := hide ((World.cell?_of_block (a := ⟨r9.b, 20, none⟩) (hfz2.block r9.b (cell_lt (unhide HNU)) (by simpa using unhide HNE))).trans (unhide HNU)); clear hZ2 hfz2; simp only [Act.put, n1, n2, n3])))
                          exact ⟨(unhide LK).kl, rfl, Tk, (unhide LK).rj, unhide HAI⟩
                        · have hgt : ¬ (200 : Int) < (wa.at : Int) + 1 := by omega
                          have HE : Hid (walkA x.il (s9.left - 1) (stepA x.il wa (enOf r9)) = FIN) := hide (by have := unhide HFN; rw [if_neg h200] at this; exact this)
                          gi_wp2_with (first | go_skip | ((with_reducible show wpListIn _ _ _ _ _ _ _ _); first | ((refine inV (fun _ => trivial) (by rfl) (by intro c h; cases h) (ex_mulW rfl rfl rfl) ?_); simp only [Act.put, n1, n2, n3]) | ((refine inV (fun _ => trivial) (by rfl) (by intro c h; cases h) (ex_addWw rfl rfl rfl hwat) ?_); simp only [Act.put, n1, n2, n3]) | ((refine inV (fun _ => trivial) (by rfl) (by intro c h; cases h) (ex_addW rfl rfl rfl) ?_); simp only [Act.put, n1, n2, n3]) | ((refine inV (fun _ => trivial) (by rfl) (by intro c h; cases h) (ex_lenS9 rfl rfl) ?_); simp only [Act.put, n1, n2, n3]) | ((refine inV (fun _ => trivial) (by rfl) (by intro c h; cases h) (ex_load1 3 Tryd.isAgg3 rfl rfl ((unhide LK).get 3 rfl) rfl) ?_); simp only [Act.put, n1, n2, n3]) | ((refine inV (fun _ => trivial) (by rfl) (by intro c h; cases h) (ex_load1 29 Tryd.isAgg29 rfl rfl ((unhide LK).get 0 rfl) rfl) ?_); simp only [Act.put, n1, n2, n3]) | ((refine inV (fun _ => trivial) (by rfl) (by intro c h; cases h) (ex_load1 4 Tryd.isAgg4 rfl rfl ((unhide LK).get 1 rfl) rfl) ?_); simp only [Act.put, n1, n2, n3]) | ((refine inV (fun _ => trivial) (by rfl) (by intro c h; cases h) (ex_load1 22 Tryd.isAgg22 rfl rfl ((unhide LK).get 2 rfl) rfl) ?_); simp only [Act.put, n1, n2, n3]) | ((refine inV (fun _ => trivial) (by rfl) (by intro c h; cases h) (ex_load1 3 Tryd.isAgg3 rfl rfl ((unhide LK).get 4 rfl) rfl) ?_); simp only [Act.put, n1, n2, n3]) | ((refine inV (fun _ => trivial) (by rfl) (by intro c h; cases h) (ex_load1 9 Tryd.isAgg9 rfl rfl (unhide HH9) rfl) ?_); simp only [Act.put, n1, n2, n3]) | ((refine inV (fun _ => trivial) (by rfl) (by intro c h; cases h) (ex_load1 3 Tryd.isAgg3 rfl rfl (unhide HH9) rfl) ?_); simp only [Act.put, n1, n2, n3]) | ((refine stR (vs := [.int .i64 (hashI wa.n r9.k)]) 3 3 (fun _ => trivial) (by rfl) (by intro c h; cases h) rfl rfl rfl rfl (by simp [Value.oneCell']) siz3 (unhide LK) rfl (Nat.le_refl _) (unhide hB11) ?_); intro Z1 hZ1 hfz1; replace LK := hide hZ1; clear hZ1 hfz1; simp only [Act.put, n1, n2, n3]) | ((refine inV (fun _ => trivial) (by rfl) (by intro c h; cases h) (ex_lenG 22 42 Tryd.underlying22 rfl rfl) ?_); simp only [Act.put, n1, n2, n3]) | ((refine inV (fun _ => trivial) (by rfl) (by intro c h; cases h) (ex_addWw rfl rfl rfl hwat) ?_); simp only [Act.put, n1, n2, n3]) | ((refine inV (fun _ => trivial) (by rfl) (by intro c h; cases h) (ex_load1 3 Tryd.isAgg3 rfl rfl ((unhide LK).get 4 rfl) rfl) ?_); simp only [Act.put, n1, n2, n3]) | ((refine stR (vs := [.int .i64 ((wa.at : Int) + 1)]) 4 3 (fun _ => trivial) (by rfl) (by intro c h; cases h) rfl rfl rfl rfl (by simp [Value.oneCell']) siz3 (unhide LK) rfl (Nat.le_refl _) (unhide hB16) ?_); intro Z2 hZ2 hfz2; have HNU := hide (num_cell ((unhide LK).rj.ri.is.rows r9 (unhide HRK))); replace LK := hide hZ2; have HNU2 := hide ((World.cell?_of_block (a := ⟨r9.b, 20, none⟩) (hfz2.block r9.b (cell_lt (unhide HNU)) (by simpa using unhide HNE))).trans (unhide HNU)); clear hZ2 hfz2; simp only [Act.put, n1, n2, n3])))
                          exact ⟨(unhide LK).kl, ⟨Tk, r9.n, some r9.b, s9.left - 1⟩, ⟨rfl, rfl, by have := (unhide HG).2.1; show s9.left - 1 < s9.left; omega⟩, stepA x.il wa (enOf r9), (unhide LK).rj, unhide HAI, rfl, by have := (unhide HG).2.1; show s9.left - 1 + (wa.at + 1) = 201; omega, by show wa.at + 1 ≤ 200; omega, unhide HE, by have h1 := unhide HL2; have h2 := (unhide HG).2.2.2; have h3 := (unhide HG).2.1; show Tk.last + (s9.left - 1) < 99300; omega, Nat.le_trans (unhide HRN) (unhide HL3), fun b hb => by cases hb; exact unhide HNU2⟩
                    case done =>
                      rintro D9 s9 W9x hD9 hF9 hI9 hM9
                      obtain ⟨T2, hJ2, hA2⟩ := hI9.fin hF9
                      clear hF9 hI9
                      have hds : D9 ∉ ds := fun hm => by have := (Array.getElem?_eq_some_iff.1 ((unhide LL).mkd D9 hm)).1; omega
                      have LL2 : Hid (RJ w W9x T T2 ((fun n a => [(B3, [.pointer (some ⟨T.t, 0, none⟩)]), (B5, [.bool true]), (B10, actCs x.kd x.k x.d x.n (.slice IA x.il.length ic)), (B11, [.int .i64 n]), (B16, [.int .i64 a]), (Bn, [.pointer (some ⟨T.t, 0, none⟩)])]) FIN.n FIN.at) tv xs (D9 :: ds)) := hide (hJ2.mark hM9 (Nat.le_trans (unhide LL).fr.size hD9) hds)
                      have HF : Hid (abs T2 = (actA x (abs T1)).1) := hide (by rw [unhide HAC]; exact hA2)
                      have HV : Hid (FIN.n = (actA x (abs T1)).2) := hide (by rw [unhide HAC])
                      clear hds hJ2 hA2 hM9 hD9 LL
                      have LL := LL2
                      clear LL2
                      rw [show ({ target := .collected D9, args := #[] } : Deferred) :: marks ds = marks (D9 :: ds) from rfl]
                      go_wp2_with fail
                      obtain ⟨LB, hLB, hLL⟩ : ∃ LB, LB = _ ∧ RJ w _ T T2 LB tv xs (D9 :: ds) := ⟨_, rfl, unhide LL⟩
                      have hg3 : LB[0]? = some (B3, [.pointer (some ⟨T.t, 0, none⟩)]) := by rw [hLB]; rfl
                      have hg11 : LB[3]? = some (B11, [.int .i64 (FIN.n)]) := by rw [hLB]; rfl
                      have hq0 := hLL.drew
                      refine wp_region_held_drew (P := Tryd.prog) (S := fun X => RI w X T T2 LB) (by kernel_rfl) hq0.ri (fun hS0 => ?_)
                      refine gsem 0 (some 138) (tv) rfl (by kernel_rfl) (by kernel_rfl) (by kernel_rfl) (fun _ _ _ h => h) (by kernel_rfl) (by kernel_rfl) (fun _ _ => by kernel_rfl) hq0.ri ?_
                      simp only [Act.put, n1, n2, n3]
                      refine gsem 1 (some 139) (.int .i64 (FIN.n)) rfl (by kernel_rfl) (by kernel_rfl) (by kernel_rfl) (fun _ _ _ h => h) (by kernel_rfl) (by kernel_rfl) (fun X hX => ex_load1 3 Tryd.isAgg3 rfl rfl (hX.hq.get 3 hg11) rfl) hq0.ri ?_
                      simp only [Act.put, n1, n2, n3]
                      refine gsem 2 (some 140) (.pointer (some ⟨T.t, 0, none⟩)) rfl (by kernel_rfl) (by kernel_rfl) (by kernel_rfl) (fun _ _ _ h => h) (by kernel_rfl) (by kernel_rfl) (fun X hX => ex_load1 29 Tryd.isAgg29 rfl rfl (hX.hq.get 0 hg3) rfl) hq0.ri ?_
                      simp only [Act.put, n1, n2, n3]
                      have HLN := hide (len30 T2 _ hq0.ri.is)
                      rw [hq0.ri.tq] at HLN
                      refine wpAnyH_ready (rs := [3]) (by kernel_rfl) (by simp) (gcallR 3 (some 141) rfl (by kernel_rfl) (by kernel_rfl) (by kernel_rfl) (unhide HLN) ?_ AllReadyH.nil)
                      rintro _ Y3 ⟨rfl, hY3⟩
                      subst hY3
                      refine ⟨_, rfl, hq0.ri, ?_⟩
                      simp only [Act.put, n1, n2, n3]
                      have hI4 := hq0.fresh ([.int .i64 (FIN.n), .int .i64 (T2.live.length : Nat)]) 3
                      have hb4 := hq0.bl (Obj.cells ([.int .i64 (FIN.n), .int .i64 (T2.live.length : Nat)]).toArray 3)
                      refine wpAnyH_ready (rs := [4]) (by kernel_rfl) (by simp) (gval 4 (some 142) rfl (by kernel_rfl) (by kernel_rfl) (ex_build26 (FIN.n) (T2.live.length : Nat) rfl rfl rfl) (hq0.ri.on hb4) ?_ AllReadyH.nil)
                      simp only [Act.put, n1, n2, n3]
                      have hq4 := hq0.on hb4
                      refine wpAnyH_ready (rs := [5]) (by kernel_rfl) (by simp) (gappF (base := w.heap.size) (size := 1) (bytes := 8) (k := xs.length) (m := 2) (news := [.int .i64 (FIN.n), .int .i64 (T2.live.length : Nat)]) (xs := xs.map (fun z => .int .i64 z)) (v := tv) 5 (some 143) rfl (by kernel_rfl) (by kernel_rfl) rfl rfl rfl Tryd.underlying26 inf3 rfl (by decide) hq4.own hI4 rfl (by simp [Value.oneCell']) (by have := unhide HXS; omega) (by decide) hq4.fr.size (fun X hg => hq4.ri_grown hg) ?_ AllReadyH.nil)
                      intro A6 c6 X6 hO6 hg6 hF6
                      simp only [Act.put, n1, n2, n3]
                      have hq6 := hq4.app (ys := [FIN.n, (T2.live.length : Int)]) (tv2 := .slice A6 (xs.length + 2) c6) (by simpa using hO6) hg6 hF6
                      refine gsem 6 (some 8) (.slice A6 (xs.length + 2) c6) rfl (by kernel_rfl) (by kernel_rfl) (by kernel_rfl) (fun _ _ _ h => h) (by kernel_rfl) (by kernel_rfl) (fun _ _ => by kernel_rfl) hq6.ri ?_
                      simp only [Act.put, n1, n2, n3]
                      refine wpAnyH_done (by kernel_rfl) ?_ _
                      try simp only [Act.put, n1, n2, n3]
                      rw [hLB] at hq6
                      have LN : Hid (RJ w X6 T T2 [(B3, [.pointer (some ⟨T.t, 0, none⟩)]), (B5, [.bool true])] (.slice A6 (xs.length + 2) c6) (xs ++ [FIN.n, (T2.live.length : Int)]) (D9 :: ds)) := hide (RJ.left (L := [(B3, [.pointer (some ⟨T.t, 0, none⟩)]), (B5, [.bool true])]) (M := _) hq6)
                      clear hq0 hq4 hq6 hLL hLB hg3 hg11 hI4 hb4 hO6 hg6 hF6 hS0 HLN LL
                      go_wp2
                      rw [show ((i : Int) + 1) = ((i + 1 : Nat) : Int) from rfl]
                      exact (Handed.intro (l.length - (i + 1)) (by have := unhide HLT; omega) (hJ _ _ _ (LI8.mk (i + 1) T2 _ (D9 :: ds) _ _ _ _ _ _ _ _ _ _ _ _ _ _ _ _ _ _ _ _ _ _ _ _ _ _ _ _ _ _ _ _ _ _ _ _ _ _ _ _ _ _ _ _ _ _ _ _ _ _ _ _ _ _ _ _ _ _ _ _ _ _ _ _ _ _ _ _ _ _ _ _ _ _ _ _ _ _ _ _ _ _ _ _ _ _ _ _ _ _ _ _ _ _ _ _ _ _ _ _ _ _ _ _ _ _ _ _ _ _ _ _ _ _ _ _ _ _ _ _ _ _ _ _ _ _ _ _ _ _ _ _ _ _ _ _ _ _ (by have := unhide HLT; omega) (Nat.le_refl _) (hide ⟨unhide LN, by have h1 := unhide HDR; rw [← unhide HF, ← unhide HV] at h1; have h2 := (unhide HI).2.1; rw [h1, abs_len] at h2; exact h2, by have h1 := act_last x (abs T1); rw [← unhide HF] at h1; have h2 : T2.last ≤ T1.last + 201 := h1; have h3 := (unhide HI).2.2.1; omega, (unhide HI).2.2.2.1, (unhide HI).2.2.2.2.1, by have := (unhide HI).2.2.2.2.2; simp; omega⟩))))
                    case stop =>
                      rintro D9 c9 W9x hD9 ⟨rfl, T2, hJ2, hA2⟩ hM9
                      refine wpIn_wide.2 ?_
                      have hds : D9 ∉ ds := fun hm => by have := (Array.getElem?_eq_some_iff.1 ((unhide LL).mkd D9 hm)).1; omega
                      have LL2 : Hid (RJ w W9x T T2 ((fun n a => [(B3, [.pointer (some ⟨T.t, 0, none⟩)]), (B5, [.bool true]), (B10, actCs x.kd x.k x.d x.n (.slice IA x.il.length ic)), (B11, [.int .i64 n]), (B16, [.int .i64 a]), (Bn, [.pointer (some ⟨T.t, 0, none⟩)])]) FIN.n FIN.at) tv xs (D9 :: ds)) := hide (hJ2.mark hM9 (Nat.le_trans (unhide LL).fr.size hD9) hds)
                      have HF : Hid (abs T2 = (actA x (abs T1)).1) := hide (by rw [unhide HAC]; exact hA2)
                      have HV : Hid (FIN.n = (actA x (abs T1)).2) := hide (by rw [unhide HAC])
                      clear hds hJ2 hA2 hM9 hD9 LL
                      have LL := LL2
                      clear LL2
                      rw [show ({ target := .collected D9, args := #[] } : Deferred) :: marks ds = marks (D9 :: ds) from rfl]
                      go_wp2_with fail
                      obtain ⟨LB, hLB, hLL⟩ : ∃ LB, LB = _ ∧ RJ w _ T T2 LB tv xs (D9 :: ds) := ⟨_, rfl, unhide LL⟩
                      have hg3 : LB[0]? = some (B3, [.pointer (some ⟨T.t, 0, none⟩)]) := by rw [hLB]; rfl
                      have hg11 : LB[3]? = some (B11, [.int .i64 (FIN.n)]) := by rw [hLB]; rfl
                      have hq0 := hLL.drew
                      refine wp_region_held_drew (P := Tryd.prog) (S := fun X => RI w X T T2 LB) (by kernel_rfl) hq0.ri (fun hS0 => ?_)
                      refine gsem 0 (some 138) (tv) rfl (by kernel_rfl) (by kernel_rfl) (by kernel_rfl) (fun _ _ _ h => h) (by kernel_rfl) (by kernel_rfl) (fun _ _ => by kernel_rfl) hq0.ri ?_
                      simp only [Act.put, n1, n2, n3]
                      refine gsem 1 (some 139) (.int .i64 (FIN.n)) rfl (by kernel_rfl) (by kernel_rfl) (by kernel_rfl) (fun _ _ _ h => h) (by kernel_rfl) (by kernel_rfl) (fun X hX => ex_load1 3 Tryd.isAgg3 rfl rfl (hX.hq.get 3 hg11) rfl) hq0.ri ?_
                      simp only [Act.put, n1, n2, n3]
                      refine gsem 2 (some 140) (.pointer (some ⟨T.t, 0, none⟩)) rfl (by kernel_rfl) (by kernel_rfl) (by kernel_rfl) (fun _ _ _ h => h) (by kernel_rfl) (by kernel_rfl) (fun X hX => ex_load1 29 Tryd.isAgg29 rfl rfl (hX.hq.get 0 hg3) rfl) hq0.ri ?_
                      simp only [Act.put, n1, n2, n3]
                      have HLN := hide (len30 T2 _ hq0.ri.is)
                      rw [hq0.ri.tq] at HLN
                      refine wpAnyH_ready (rs := [3]) (by kernel_rfl) (by simp) (gcallR 3 (some 141) rfl (by kernel_rfl) (by kernel_rfl) (by kernel_rfl) (unhide HLN) ?_ AllReadyH.nil)
                      rintro _ Y3 ⟨rfl, hY3⟩
                      subst hY3
                      refine ⟨_, rfl, hq0.ri, ?_⟩
                      simp only [Act.put, n1, n2, n3]
                      have hI4 := hq0.fresh ([.int .i64 (FIN.n), .int .i64 (T2.live.length : Nat)]) 3
                      have hb4 := hq0.bl (Obj.cells ([.int .i64 (FIN.n), .int .i64 (T2.live.length : Nat)]).toArray 3)
                      refine wpAnyH_ready (rs := [4]) (by kernel_rfl) (by simp) (gval 4 (some 142) rfl (by kernel_rfl) (by kernel_rfl) (ex_build26 (FIN.n) (T2.live.length : Nat) rfl rfl rfl) (hq0.ri.on hb4) ?_ AllReadyH.nil)
                      simp only [Act.put, n1, n2, n3]
                      have hq4 := hq0.on hb4
                      refine wpAnyH_ready (rs := [5]) (by kernel_rfl) (by simp) (gappF (base := w.heap.size) (size := 1) (bytes := 8) (k := xs.length) (m := 2) (news := [.int .i64 (FIN.n), .int .i64 (T2.live.length : Nat)]) (xs := xs.map (fun z => .int .i64 z)) (v := tv) 5 (some 143) rfl (by kernel_rfl) (by kernel_rfl) rfl rfl rfl Tryd.underlying26 inf3 rfl (by decide) hq4.own hI4 rfl (by simp [Value.oneCell']) (by have := unhide HXS; omega) (by decide) hq4.fr.size (fun X hg => hq4.ri_grown hg) ?_ AllReadyH.nil)
                      intro A6 c6 X6 hO6 hg6 hF6
                      simp only [Act.put, n1, n2, n3]
                      have hq6 := hq4.app (ys := [FIN.n, (T2.live.length : Int)]) (tv2 := .slice A6 (xs.length + 2) c6) (by simpa using hO6) hg6 hF6
                      refine gsem 6 (some 8) (.slice A6 (xs.length + 2) c6) rfl (by kernel_rfl) (by kernel_rfl) (by kernel_rfl) (fun _ _ _ h => h) (by kernel_rfl) (by kernel_rfl) (fun _ _ => by kernel_rfl) hq6.ri ?_
                      simp only [Act.put, n1, n2, n3]
                      refine wpAnyH_done (by kernel_rfl) ?_ _
                      try simp only [Act.put, n1, n2, n3]
                      rw [hLB] at hq6
                      have LN : Hid (RJ w X6 T T2 [(B3, [.pointer (some ⟨T.t, 0, none⟩)]), (B5, [.bool true])] (.slice A6 (xs.length + 2) c6) (xs ++ [FIN.n, (T2.live.length : Int)]) (D9 :: ds)) := hide (RJ.left (L := [(B3, [.pointer (some ⟨T.t, 0, none⟩)]), (B5, [.bool true])]) (M := _) hq6)
                      clear hq0 hq4 hq6 hLL hLB hg3 hg11 hI4 hb4 hO6 hg6 hF6 hS0 HLN LL
                      go_wp2
                      rw [show ((i : Int) + 1) = ((i + 1 : Nat) : Int) from rfl]
                      exact (Handed.intro (l.length - (i + 1)) (by have := unhide HLT; omega) (hJ _ _ _ (LI8.mk (i + 1) T2 _ (D9 :: ds) _ _ _ _ _ _ _ _ _ _ _ _ _ _ _ _ _ _ _ _ _ _ _ _ _ _ _ _ _ _ _ _ _ _ _ _ _ _ _ _ _ _ _ _ _ _ _ _ _ _ _ _ _ _ _ _ _ _ _ _ _ _ _ _ _ _ _ _ _ _ _ _ _ _ _ _ _ _ _ _ _ _ _ _ _ _ _ _ _ _ _ _ _ _ _ _ _ _ _ _ _ _ _ _ _ _ _ _ _ _ _ _ _ _ _ _ _ _ _ _ _ _ _ _ _ _ _ _ _ _ _ _ _ _ _ _ _ _ (by have := unhide HLT; omega) (Nat.le_refl _) (hide ⟨unhide LN, by have h1 := unhide HDR; rw [← unhide HF, ← unhide HV] at h1; have h2 := (unhide HI).2.1; rw [h1, abs_len] at h2; exact h2, by have h1 := act_last x (abs T1); rw [← unhide HF] at h1; have h2 : T2.last ≤ T1.last + 201 := h1; have h3 := (unhide HI).2.2.1; omega, (unhide HI).2.2.2.1, (unhide HI).2.2.2.2.1, by have := (unhide HI).2.2.2.2.2; simp; omega⟩))))
                  · have he1 : (x.kd == 1) = false := by simp [h1]
                    have he2 : (x.kd == 2) = false := by simp [h2]
                    have he3 : (x.kd == 3) = false := by simp [h3]
                    have he5 : (x.kd == 5) = false := by simp [h5]
                    have he6 : (x.kd == 6) = false := by simp [h6]
                    have he9 : (x.kd == 9) = false := by simp [h9]
                    have HAC : Hid (actA x (abs T1) = (abs T1, 0)) := hide (by unfold actA; rw [if_neg h1, if_neg h2, if_neg h3, if_neg h5, if_neg h6, if_neg h9])
                    clear h1 h2 h3 h5 h6 h9
                    have HF : Hid (abs Tc = (actA x (abs T1)).1) := hide (by rw [unhide HAC]; exact unhide HTC)
                    have HV : Hid ((0 : Int) = (actA x (abs T1)).2) := hide (by rw [unhide HAC])
                    go_wp2_with (first | go_skip | ((with_reducible show wpList _ _ _ _ _ _); first | ((refine vl (by rfl) (ex_load1 29 Tryd.isAgg29 rfl rfl ((unhide LL).get 0 rfl) rfl) ?_); simp only [Act.put, n1, n2, n3]) | ((refine vl (by rfl) (ex_load1 4 Tryd.isAgg4 rfl rfl ((unhide LL).get 1 rfl) rfl) ?_); simp only [Act.put, n1, n2, n3]) | ((refine vl (by rfl) (ex_load1 3 Tryd.isAgg3 rfl rfl ((unhide LL).get 2 rfl) rfl) ?_); simp only [Act.put, n1, n2, n3]) | ((refine vl (by rfl) (ex_loadN (vs := x.k.cs) 34 2 row33x siz33 rfl rfl ((unhide LL).get 2 rfl) rfl rfl) ?_); simp only [Act.put, n1, n2, n3]) | ((refine vl (by rfl) (ex_loadN (vs := x.d.cs) 40 18 row39 siz39 rfl rfl ((unhide LL).get 2 rfl) rfl rfl) ?_); simp only [Act.put, n1, n2, n3]) | ((refine vl (by rfl) (ex_lenG 22 42 Tryd.underlying22 rfl rfl) ?_); simp only [Act.put, n1, n2, n3]) | ((refine vl (by rfl) (ex_indexG 22 23 i und22 idx22 rfl rfl rfl (unhide HLT)) ?_); simp only [Act.put, n1, n2, n3]) | ((refine vl (by rfl) (ex_loadR (vs := actCs x.kd x.k x.d x.n (.slice IA x.il.length ic)) 42 23 row41 siz41 rfl rfl (unhide HA2 _ (unhide LL).fr) rfl) ?_); simp only [Act.put, n1, n2, n3]) | ((refine alK (v := .agg (zeroAct).toArray) 42 (zeroAct) (by rfl) rfl (fun w => by kernel_rfl) rfl (Nat.succ_pos _) (unhide LL) ?_); intro X10 B10 hB10 L10; replace hB10 := hide hB10; replace LL := hide L10; clear L10; simp only [Act.put, n1, n2, n3]) | ((refine stK (vs := actCs x.kd x.k x.d x.n (.slice IA x.il.length ic)) 2 42 (by rfl) rfl rfl rfl rfl (act_one _ _ _ _ _ _ _) siz41 (unhide LL) rfl (by simp [cput, zeroAct, actCs, zeroK, zeroD, KK.cs, DD.cs, VV.cs]) (unhide hB10) ?_); intro X12 L12; replace LL := hide L12; clear L12; simp only [Act.put, n1, n2, n3]) | ((refine alK (v := .int .i64 0) 3 ([.int .i64 0]) (by rfl) rfl (fun w => by kernel_rfl) rfl (Nat.succ_pos _) (unhide LL) ?_); intro X11 B11 hB11 L11; replace hB11 := hide hB11; replace LL := hide L11; clear L11; simp only [Act.put, n1, n2, n3]) | ((refine stK (vs := [.int .i64 0]) 3 3 (by rfl) rfl rfl rfl rfl (by simp [Value.oneCell']) siz3 (unhide LL) rfl (by simp [cput, zeroAct, actCs, zeroK, zeroD, KK.cs, DD.cs, VV.cs]) (unhide hB11) ?_); intro X13 L13; replace LL := hide L13; clear L13; simp only [Act.put, n1, n2, n3])))
                    obtain ⟨LB, hLB, hLL⟩ : ∃ LB, LB = _ ∧ RJ w _ T Tc LB tv xs ds := ⟨_, rfl, unhide LL⟩
                    have hg3 : LB[0]? = some (B3, [.pointer (some ⟨T.t, 0, none⟩)]) := by rw [hLB]; rfl
                    have hg11 : LB[3]? = some (B11, [.int .i64 (0)]) := by rw [hLB]; rfl
                    have hq0 := hLL.drew
                    refine wp_region_held_drew (P := Tryd.prog) (S := fun X => RI w X T Tc LB) (by kernel_rfl) hq0.ri (fun hS0 => ?_)
                    refine gsem 0 (some 138) (tv) rfl (by kernel_rfl) (by kernel_rfl) (by kernel_rfl) (fun _ _ _ h => h) (by kernel_rfl) (by kernel_rfl) (fun _ _ => by kernel_rfl) hq0.ri ?_
                    simp only [Act.put, n1, n2, n3]
                    refine gsem 1 (some 139) (.int .i64 (0)) rfl (by kernel_rfl) (by kernel_rfl) (by kernel_rfl) (fun _ _ _ h => h) (by kernel_rfl) (by kernel_rfl) (fun X hX => ex_load1 3 Tryd.isAgg3 rfl rfl (hX.hq.get 3 hg11) rfl) hq0.ri ?_
                    simp only [Act.put, n1, n2, n3]
                    refine gsem 2 (some 140) (.pointer (some ⟨T.t, 0, none⟩)) rfl (by kernel_rfl) (by kernel_rfl) (by kernel_rfl) (fun _ _ _ h => h) (by kernel_rfl) (by kernel_rfl) (fun X hX => ex_load1 29 Tryd.isAgg29 rfl rfl (hX.hq.get 0 hg3) rfl) hq0.ri ?_
                    simp only [Act.put, n1, n2, n3]
                    have HLN := hide (len30 Tc _ hq0.ri.is)
                    rw [hq0.ri.tq] at HLN
                    refine wpAnyH_ready (rs := [3]) (by kernel_rfl) (by simp) (gcallR 3 (some 141) rfl (by kernel_rfl) (by kernel_rfl) (by kernel_rfl) (unhide HLN) ?_ AllReadyH.nil)
                    rintro _ Y3 ⟨rfl, hY3⟩
                    subst hY3
                    refine ⟨_, rfl, hq0.ri, ?_⟩
                    simp only [Act.put, n1, n2, n3]
                    have hI4 := hq0.fresh ([.int .i64 (0), .int .i64 (Tc.live.length : Nat)]) 3
                    have hb4 := hq0.bl (Obj.cells ([.int .i64 (0), .int .i64 (Tc.live.length : Nat)]).toArray 3)
                    refine wpAnyH_ready (rs := [4]) (by kernel_rfl) (by simp) (gval 4 (some 142) rfl (by kernel_rfl) (by kernel_rfl) (ex_build26 (0) (Tc.live.length : Nat) rfl rfl rfl) (hq0.ri.on hb4) ?_ AllReadyH.nil)
                    simp only [Act.put, n1, n2, n3]
                    have hq4 := hq0.on hb4
                    refine wpAnyH_ready (rs := [5]) (by kernel_rfl) (by simp) (gappF (base := w.heap.size) (size := 1) (bytes := 8) (k := xs.length) (m := 2) (news := [.int .i64 (0), .int .i64 (Tc.live.length : Nat)]) (xs := xs.map (fun z => .int .i64 z)) (v := tv) 5 (some 143) rfl (by kernel_rfl) (by kernel_rfl) rfl rfl rfl Tryd.underlying26 inf3 rfl (by decide) hq4.own hI4 rfl (by simp [Value.oneCell']) (by have := unhide HXS; omega) (by decide) hq4.fr.size (fun X hg => hq4.ri_grown hg) ?_ AllReadyH.nil)
                    intro A6 c6 X6 hO6 hg6 hF6
                    simp only [Act.put, n1, n2, n3]
                    have hq6 := hq4.app (ys := [0, (Tc.live.length : Int)]) (tv2 := .slice A6 (xs.length + 2) c6) (by simpa using hO6) hg6 hF6
                    refine gsem 6 (some 8) (.slice A6 (xs.length + 2) c6) rfl (by kernel_rfl) (by kernel_rfl) (by kernel_rfl) (fun _ _ _ h => h) (by kernel_rfl) (by kernel_rfl) (fun _ _ => by kernel_rfl) hq6.ri ?_
                    simp only [Act.put, n1, n2, n3]
                    refine wpAnyH_done (by kernel_rfl) ?_ _
                    try simp only [Act.put, n1, n2, n3]
                    rw [hLB] at hq6
                    have LN : Hid (RJ w X6 T Tc [(B3, [.pointer (some ⟨T.t, 0, none⟩)]), (B5, [.bool true])] (.slice A6 (xs.length + 2) c6) (xs ++ [0, (Tc.live.length : Int)]) (ds)) := hide (RJ.left (L := [(B3, [.pointer (some ⟨T.t, 0, none⟩)]), (B5, [.bool true])]) (M := _) hq6)
                    clear hq0 hq4 hq6 hLL hLB hg3 hg11 hI4 hb4 hO6 hg6 hF6 hS0 HLN LL
                    go_wp2
                    rw [show ((i : Int) + 1) = ((i + 1 : Nat) : Int) from rfl]
                    exact (Handed.intro (l.length - (i + 1)) (by have := unhide HLT; omega) (hJ _ _ _ (LI8.mk (i + 1) Tc _ (ds) _ _ _ _ _ _ _ _ _ _ _ _ _ _ _ _ _ _ _ _ _ _ _ _ _ _ _ _ _ _ _ _ _ _ _ _ _ _ _ _ _ _ _ _ _ _ _ _ _ _ _ _ _ _ _ _ _ _ _ _ _ _ _ _ _ _ _ _ _ _ _ _ _ _ _ _ _ _ _ _ _ _ _ _ _ _ _ _ _ _ _ _ _ _ _ _ _ _ _ _ _ _ _ _ _ _ _ _ _ _ _ _ _ _ _ _ _ _ _ _ _ _ _ _ _ _ _ _ _ _ _ _ _ _ _ _ _ _ (by have := unhide HLT; omega) (Nat.le_refl _) (hide ⟨unhide LN, by have h1 := unhide HDR; rw [← unhide HF, ← unhide HV] at h1; have h2 := (unhide HI).2.1; rw [h1, abs_len] at h2; exact h2, by have h1 := act_last x (abs T1); rw [← unhide HF] at h1; have h2 : Tc.last ≤ T1.last + 201 := h1; have h3 := (unhide HI).2.2.1; omega, (unhide HI).2.2.2.1, (unhide HI).2.2.2.2.1, by have := (unhide HI).2.2.2.2.2; simp; omega⟩))))
    · obtain rfl : i = l.length := by omega
      have HM : Hid (runA l (abs T) [] = (abs T1, xs)) := hide (by have := (unhide HI).2.1; rw [List.drop_length] at this; exact this.symm)
      have HLA := hide (unhide HI).2.2.1
      clear hlt hil hgm
      have HLV : Hid (T1.last < 1000000 ∧ T1.live.length ≤ 100000) := hide (by have h1 := T1.live_le; have h2 := (unhide LL).ri.is.len; have := unhide HLA; have := unhide HN; omega)
      have HP := hide (props27 T1 X (unhide LL).ri.is (unhide HLV).1 (unhide HLV).2)
      rw [(unhide LL).ri.tq] at HP
      go_wp2_with (first | go_skip | ((with_reducible show wpList _ _ _ _ _ _); first | ((refine vl (by rfl) (ex_lenG 22 42 Tryd.underlying22 rfl rfl) ?_); simp only [Act.put, n1, n2, n3]) | ((refine vl (by rfl) (ex_load1 29 Tryd.isAgg29 rfl rfl ((unhide LL).get 0 rfl) rfl) ?_); simp only [Act.put, n1, n2, n3])))
      refine (unhide HP).mono ?_
      rintro _ Y ⟨pw, rfl, hpw, hb⟩
      have HX := hide ((unhide LL).ri.is.lt)
      have HXZ := hide (unhide LL).fr.size
      replace LL := hide ((unhide LL).on hb)
      have HPW := hide hpw
      clear hpw hb HP
      go_wp2
      refine leaves_marks ds _ (unhide LL).dnd (unhide LL).mkd (fun Z hZ => ?_)
      have hR := (unhide LL).leave hZ
      have hpz := own_keep (unhide HPW) (fun g hg => hZ.block g (World.ownsRow.lt (unhide HPW) g hg).2 (fun hm => own_def (unhide HPW) hg ((unhide LL).mkd g hm)))
      refine ⟨_, results_tmp2 rfl _ _ _, T1, pw, tv, rfl, hR.ri.is, hR.ri.tq, hR.fr, hR.ri.new, by rw [unhide HM], unhide HLA, own_mono hpz (unhide HXZ), by rw [unhide HM]; exact hR.own, fun g hg hm => ?_, fun g hg => (hR.apart g hg).1⟩
      have h1 := (World.ownsRow.lt (unhide HPW) g hg).1
      have h2 := unhide HX g hm
      omega
end Go.Proofs.YtmemceindohklaaDoor
