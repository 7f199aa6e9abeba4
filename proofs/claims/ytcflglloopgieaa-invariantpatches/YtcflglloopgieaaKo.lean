import Derived.Test.YtcflglloopgieaaKn
namespace Go.Proofs.Ytcflglloopgieaa
open Go Go.Proofs Go.Maps Go.RowKit FM
set_option linter.unusedSimpArgs false
set_option linter.unusedVariables false
set_option maxHeartbeats 1000000
theorem Sy.perm {w X : World} {E : List Nat} {L L' : List Ob} (h : Sy w X E L) (hp : L.Perm L') : Sy w X E L' :=
  ⟨h.fr, fun o ho => h.ok o (hp.mem_iff.2 ho), fun o ho => h.ho o (hp.mem_iff.2 ho), fun o ho => h.lo o (hp.mem_iff.2 ho), hp.pairwise h.dis (fun hab x hx hxa => hab x hxa hx)⟩
theorem Sy.front {w X : World} {E : List Nat} {L : List Ob} {o : Ob} (h : Sy w X E (L ++ [o])) : Sy w X E (o :: L) := h.perm (List.perm_append_singleton o L)
theorem Sy.tail {w X : World} {E : List Nat} {L : List Ob} {o : Ob} (h : Sy w X E (o :: L)) : Sy w X E L :=
  ⟨h.fr, fun q hq => h.ok q (List.mem_cons_of_mem _ hq), fun q hq => h.ho q (List.mem_cons_of_mem _ hq), fun q hq => h.lo q (List.mem_cons_of_mem _ hq), (List.pairwise_cons.1 h.dis).2⟩
section
variable {ops : Array Oper} {rest : List Oper} {Q : Exit → Act → World → Prop} {w w0 : World} {a : Act} {o : Oper} {E : List Nat} {L : List Ob}
theorem bxP {v : Value} {x : Operand} (ty : TypeId) (cs : List Value) (hw : Region.wanted o (yielded ops a.tmps) = true) (ho : o.op = .box ty x) (hx : a.eval x = v) (hv : v.cells.toList = cs) (hc : 0 < cs.length) (hL : Sy w0 w E L)
    (h : ∀ X B, B = w.heap.size → Sy w0 X E (boxO B cs :: L) → Below w.heap.size w X → wpList Try.prog ops Q rest (a.put o.dst (.pointer (some ⟨B, 0, none⟩))) X) : wpList Try.prog ops Q (o :: rest) a w :=
  bxS ty cs hw ho hx hv hc hL (fun X B hB hS hb => h X B hB hS.front hb)
theorem alP {v : Value} (ty : TypeId) (cs : List Value) (hw : Region.wanted o (yielded ops a.tmps) = true) (ho : o.op = .alloc ty) (hz : ∀ w, (zeroValue ty).run Try.prog w = .ok v w) (hv : v.cells.toList = cs) (hc : 0 < cs.length) (hL : Sy w0 w E L)
    (h : ∀ X B, B = w.heap.size → Sy w0 X E (boxO B cs :: L) → Below w.heap.size w X → wpList Try.prog ops Q rest (a.put o.dst (.pointer (some ⟨B, 0, none⟩))) X) : wpList Try.prog ops Q (o :: rest) a w :=
  alS ty cs hw ho hz hv hc hL (fun X B hB hS hb => h X B hB hS.front hb)
theorem bsP {t e : TypeId} {size bytes : Nat} {z v : Value} {cs : List Value} {x : Operand} (hw : Region.wanted o (yielded ops a.tmps) = true) (ho : o.op = .buildSlice t 1 #[(0, x)]) (hx : a.eval x = v)
    (ht : Try.prog.underlying t = some (.slice e)) (hi : (Try.prog.info? e).map (fun i => (i.zero, i.size, i.bytes)) = some (some z, size, bytes)) (hs1 : size ≤ 100) (hv : v.cells.toList = cs) (hc : cs.length = size) (h0 : 0 < size) (hL : Sy w0 w E L)
    (h : ∀ X B, B = w.heap.size → Sy w0 X E (boxO B cs :: L) → Below w.heap.size w X → wpList Try.prog ops Q rest (a.put o.dst (.slice (some ⟨B, 0, none⟩) 1 1)) X) : wpList Try.prog ops Q (o :: rest) a w :=
  bsS hw ho hx ht hi hs1 hv hc h0 hL (fun X B hB hS hb => h X B hB hS.front hb)
end
/-- A draft, its block, and how many rows it may have. -/
structure DB where
  b : Nat
  k : Nat
  d : DR
def dbO (w : World) (p : DB) : Ob := drO w p.b p.k p.d
def ptr (p : DB) : Value := .pointer (some ⟨p.b, 0, none⟩)
/-- A draft of a shape that lies somewhere. -/
def fresh (s : SH) (A : Option Addr) (cap : Nat) : DR := ⟨s, A, cap, none⟩
theorem fresh_abs (s : SH) (A : Option Addr) (cap : Nat) : (fresh s A cap).abs = s := rfl
theorem Sy.draft {w0 w X : World} {E : List Nat} {L : List Ob} (h : Sy w0 X E L) (hw : w.heap.size ≤ X.heap.size) (s : SH) (A : Option Addr) (cap : Nat) (hrd : ReadsP w A s.ps) (hgd : GS s) : Sy w0 (X.alloc (Obj.cells (s.cs A cap ++ [Value.slice none 0 0, Value.map none]).toArray 64)) E (L ++ [dbO w ⟨X.heap.size, 400, fresh s A cap⟩]) :=
  h.add (drO_ok _ _ _ _) ⟨Holds.new X _ 64, hrd, hgd, hw, fun x hx => by cases hx⟩ ((Below.refl _ _).alloc (Nat.le_refl _) _) (fun b hb => by
    have : b = X.heap.size := by simpa [dbO, drO, DR.bs, fresh] using hb
    omega)
theorem bDr (s : SH) (A : Option Addr) (c : Nat) (w : World) : (Instr.build 64 #[(0, .agg (s.cs A c).toArray)]).run Try.prog w = .ok (.agg (s.cs A c ++ [Value.slice none 0 0, Value.map none]).toArray) w := by kernel_rfl
theorem ex_bDr {o : Oper} {a : Act} {w : World} {x0 : Operand} (s : SH) (A : Option Addr) (c : Nat) (ho : o.op = .build 64 #[(0, x0)]) (h0 : a.eval x0 = .agg (s.cs A c).toArray) : (execOp a.eval o).run Try.prog w = .ok (.value (.agg (s.cs A c ++ [Value.slice none 0 0, Value.map none]).toArray)) w := by
  have e := bDr s A c w
  unfold execOp
  simp only [ho, List.map_toArray, List.map_cons, List.map_nil, h0]
  simp [e]
theorem bSh (n : Int) (v : VV) (y : Bool) (w : World) : (Instr.build 48 #[(0, .int .i64 n), (1, .agg v.cs.toArray), (2, .bool y)]).run Try.prog w = .ok (.agg (SH.cs ⟨n, v, y, []⟩ none 0).toArray) w := by kernel_rfl
theorem ex_bSh {o : Oper} {a : Act} {w : World} {x0 x1 x2 : Operand} (n : Int) (v : VV) (y : Bool) (ho : o.op = .build 48 #[(0, x0), (1, x1), (2, x2)]) (h0 : a.eval x0 = .int .i64 n) (h1 : a.eval x1 = .agg v.cs.toArray) (h2 : a.eval x2 = .bool y) : (execOp a.eval o).run Try.prog w = .ok (.value (.agg (SH.cs ⟨n, v, y, []⟩ none 0).toArray)) w := by
  have e := bSh n v y w
  unfold execOp
  simp only [ho, List.map_toArray, List.map_cons, List.map_nil, h0, h1, h2]
  simp [e]
theorem bxD {ops : Array Oper} {rest : List Oper} {Q : Exit → Act → World → Prop} {w w0 wb : World} {a : Act} {o : Oper} {E : List Nat} {L : List Ob} {x : Operand} (s : SH) (A : Option Addr) (cap : Nat) (hw : Region.wanted o (yielded ops a.tmps) = true) (ho : o.op = .box 64 x) (hx : a.eval x = .agg (s.cs A cap ++ [Value.slice none 0 0, Value.map none]).toArray) (hL : Sy w0 w E L) (hb : wb.heap.size ≤ w.heap.size) (hrd : ReadsP wb A s.ps) (hgd : GS s)
    (h : ∀ X B, B = w.heap.size → Sy w0 X E (L ++ [dbO wb ⟨B, 400, fresh s A cap⟩]) → wpList Try.prog ops Q rest (a.put o.dst (.pointer (some ⟨B, 0, none⟩))) X) : wpList Try.prog ops Q (o :: rest) a w := by
  refine BigFrame.wpList_want hw fun K hK => ?_
  have hP := hK _ _ (h _ _ rfl (hL.draft hb s A cap hrd hgd))
  unfold Oper.wp
  rw [ex_box 64 (s.cs A cap ++ [Value.slice none 0 0, Value.map none]) ho hx rfl]
  exact hP
def rowD (w : World) (v : Value) (ds : List DB) : Ob := rowO w.heap.size 60 1 v ds.length (ds.map ptr)
/-- The drafts, and the row of their pointers. -/
def core (w : World) (v : Value) (ds : List DB) : List Ob := rowD w v ds :: ds.map (dbO w)
theorem core_snoc (w : World) (v : Value) (ds : List DB) (p : DB) : core w v (ds ++ [p]) = rowO w.heap.size 60 1 v (ds.length + 1) (ds.map ptr ++ [ptr p]) :: (ds.map (dbO w) ++ [dbO w p]) := by
  simp [core, rowD]
def absL (ds : List DB) : List SH := ds.map (fun p => p.d.abs)
def DoPost (w : World) (l : List SH) (e : Ending) (X : World) : Prop := ∃ (v : Value) (ds : List DB), e = .returned v ∧ Sy w X [] (core w v ds) ∧ absL ds = l ∧ ∀ p ∈ ds, p.k = 400
theorem ptr_one (p : DB) : ∀ u ∈ [ptr p], u.oneCell' = true := by simp [ptr, Value.oneCell']
theorem ReadsU.gs {w : World} {A : Option Addr} {l : List SH} (h : ReadsU w A l) {j : Nat} {s : SH} (hs : l[j]? = some s) : GS s := by
  obtain ⟨h0, h1, h2, _⟩ := h j s hs
  exact ⟨h0.1, h1, h2, h0.2⟩
set_option maxHeartbeats 2000000 in
set_option maxRecDepth 100000 in
theorem draftsOf_any (B : Option Addr) (cap : Nat) (l : List SH) (w : World) (hR : ReadsU w B l) (hz : l.length ≤ 100000) : Calls Try.prog 12 #[.slice B l.length cap] w (DoPost w l) := by
  have HR := hide hR
  have HZ := hide hz
  have LL := hide (Sy.nil w [])
  clear hR hz
  go_enter Try.func12, Try.ntmps12
  go_wp2_with (first | go_skip | ((with_reducible show wpList _ _ _ _ _ _); first | ((refine rd (by rfl) (ex_lenG 22 48 Try.underlying22 rfl rfl) ?_); simp only [Act.put, List.setIfInBounds_toArray, List.set_cons_succ, List.set_cons_zero]) | ((refine mkS w.heap.size l.length (by rfl) rfl rfl rfl Try.underlying50 infXp (unhide HZ) (by decide) (by decide) (unhide LL) (unhide LL).fr.size ?_); intro X1 B1 hE1 L1 hb1; replace LL := hide L1; clear L1 hb1 hE1; simp only [Act.put, List.setIfInBounds_toArray, List.set_cons_succ, List.set_cons_zero]) | ((refine rd (by rfl) (ex_indexA 22 8 i unSs idSs rfl rfl (unhide HA) rfl (unhide HLT)) ?_); simp only [Act.put, List.setIfInBounds_toArray, List.set_cons_succ, List.set_cons_zero]) | ((refine rd (by rfl) (ex_loadR (vs := s.cs SA sc) 48 8 rwS szS rfl rfl (unhide HA2 _ (unhide LL).fr) rfl) ?_); simp only [Act.put, List.setIfInBounds_toArray, List.set_cons_succ, List.set_cons_zero]) | ((refine alP (v := .agg (zeroS.cs none 0).toArray) 48 (zeroS.cs none 0) (by rfl) rfl (fun w => by kernel_rfl) rfl (Nat.succ_pos _) (unhide LL) ?_); intro X5 B5 hE5 L5 hb5; replace LL := hide L5; clear L5 hb5 hE5; simp only [Act.put, List.setIfInBounds_toArray, List.set_cons_succ, List.set_cons_zero]) | ((refine stS (vs := s.cs SA sc) 0 48 (by rfl) rfl rfl rfl rfl (shcs_one s SA sc) szS (unhide LL) rfl (by simp [cput, SH.cs, VV.cs, zeroS, zeroV]) ?_); intro X6 L6 hf6 hs6; replace LL := hide L6; clear L6 hf6 hs6; simp only [Act.put, List.setIfInBounds_toArray, List.set_cons_succ, List.set_cons_zero]) | ((refine rd (by rfl) (ex_loadN (vs := s.cs SA sc) 48 8 rwS szS rfl rfl ((unhide LL).hold 0 rfl) rfl rfl) ?_); simp only [Act.put, List.setIfInBounds_toArray, List.set_cons_succ, List.set_cons_zero]) | ((refine rd (by rfl) (ex_bDr s SA sc rfl rfl) ?_); simp only [Act.put, List.setIfInBounds_toArray, List.set_cons_succ, List.set_cons_zero]) | ((refine bxD (wb := w) s SA sc (by rfl) rfl rfl (unhide LL) (unhide LL).fr.size (unhide HPS) (unhide HGS) ?_); intro X7 B7 hE7 L7; replace LL := hide L7; clear L7 hE7; simp only [Act.put, List.setIfInBounds_toArray, List.set_cons_succ, List.set_cons_zero]) | ((refine bsP (cs := [ptr ⟨B7, 400, fresh s SA sc⟩]) (by rfl) rfl rfl Try.underlying50 infXp (by decide) rfl rfl (by decide) (unhide LL) ?_); intro X8 B8 hE8 L8 hb8; replace LL := hide L8; clear L8 hb8 hE8; simp only [Act.put, List.setIfInBounds_toArray, List.set_cons_succ, List.set_cons_zero]) | ((refine apS (size := 1) (bytes := 8) (base := w.heap.size) (k := ds.length) (xs := ds.map ptr) (news := [ptr ⟨B7, 400, fresh s SA sc⟩]) (v := .slice A ds.length c) 2 0 rfl rfl rfl rfl Try.underlying50 infXp rfl (by decide) (unhide LL) rfl rfl rfl (ptr_one _) (by have := unhide HDL; have := unhide HZ; have := unhide HLT; omega) (by decide) (unhide LL).fr.size ?_); intro A9 c9 X9 L9; replace LL := hide L9; clear L9; simp only [Act.put, List.setIfInBounds_toArray, List.set_cons_succ, List.set_cons_zero])))
  go_loopg [3, 11] l.length (fun gm s3 s11 wr => ∃ (i : Nat) (A : Option Addr) (c : Nat) (ds : List DB), s11 = .int .i64 (i : Nat) ∧ i ≤ l.length ∧ l.length - i ≤ gm ∧ s3 = .slice A ds.length c ∧ Hid (ds.length = i) ∧ Hid (absL ds = l.take i ∧ ∀ p ∈ ds, p.k = 400) ∧ Hid (Sy w wr [] (core w (.slice A ds.length c) ds)))
  case atStart => exact ⟨0, _, _, [], rfl, by omega, by omega, rfl, hide rfl, hide ⟨rfl, by simp⟩, LL⟩
  case round =>
    clear LL
    obtain ⟨i, A, c, ds, rfl, hil, hgm, rfl, HDL, HAB, LL⟩ := hrel
    by_cases hlt : i < l.length
    · have dlt : decide ((i : Int) < (l.length : Int)) = true := decide_eq_true (by omega)
      have hw1 : IntKind.i64.wrap ((i : Int) + 1) = (i : Int) + 1 := by have := unhide HZ; rw [IntKind.wrap_i64]; omega
      obtain ⟨s, hs⟩ : ∃ s, l[i]? = some s := ⟨_, List.getElem?_eq_getElem hlt⟩
      obtain ⟨_, _, _, b, off, SA, sc, hA, hb, hps, hrg, _⟩ := (unhide HR) i s hs
      have HA := hide hA
      have HA2 : Hid (∀ X, Fr w X [] → X.rangeAt b (off + i * 8) (s.cs SA sc)) := hide (fun X hX => rangeAt_fr hrg hb hX)
      have HPS := hide hps
      have HGS := hide ((unhide HR).gs hs)
      have HLT := hide hlt
      have HS := hide hs
      replace LL : Hid (Sy w wr [] (rowO w.heap.size 60 1 (.slice A ds.length c) ds.length (ds.map ptr) :: ds.map (dbO w))) := LL
      clear hA hb hps hrg hlt hil hs
      go_wp2_with (first | go_skip | ((with_reducible show wpList _ _ _ _ _ _); first | ((refine rd (by rfl) (ex_lenG 22 48 Try.underlying22 rfl rfl) ?_); simp only [Act.put, List.setIfInBounds_toArray, List.set_cons_succ, List.set_cons_zero]) | ((refine mkS w.heap.size l.length (by rfl) rfl rfl rfl Try.underlying50 infXp (unhide HZ) (by decide) (by decide) (unhide LL) (unhide LL).fr.size ?_); intro X1 B1 hE1 L1 hb1; replace LL := hide L1; clear L1 hb1 hE1; simp only [Act.put, List.setIfInBounds_toArray, List.set_cons_succ, List.set_cons_zero]) | ((refine rd (by rfl) (ex_indexA 22 8 i unSs idSs rfl rfl (unhide HA) rfl (unhide HLT)) ?_); simp only [Act.put, List.setIfInBounds_toArray, List.set_cons_succ, List.set_cons_zero]) | ((refine rd (by rfl) (ex_loadR (vs := s.cs SA sc) 48 8 rwS szS rfl rfl (unhide HA2 _ (unhide LL).fr) rfl) ?_); simp only [Act.put, List.setIfInBounds_toArray, List.set_cons_succ, List.set_cons_zero]) | ((refine alP (v := .agg (zeroS.cs none 0).toArray) 48 (zeroS.cs none 0) (by rfl) rfl (fun w => by kernel_rfl) rfl (Nat.succ_pos _) (unhide LL) ?_); intro X5 B5 hE5 L5 hb5; replace LL := hide L5; clear L5 hb5 hE5; simp only [Act.put, List.setIfInBounds_toArray, List.set_cons_succ, List.set_cons_zero]) | ((refine stS (vs := s.cs SA sc) 0 48 (by rfl) rfl rfl rfl rfl (shcs_one s SA sc) szS (unhide LL) rfl (by simp [cput, SH.cs, VV.cs, zeroS, zeroV]) ?_); intro X6 L6 hf6 hs6; replace LL := hide L6; clear L6 hf6 hs6; simp only [Act.put, List.setIfInBounds_toArray, List.set_cons_succ, List.set_cons_zero]) | ((refine rd (by rfl) (ex_loadN (vs := s.cs SA sc) 48 8 rwS szS rfl rfl ((unhide LL).hold 0 rfl) rfl rfl) ?_); simp only [Act.put, List.setIfInBounds_toArray, List.set_cons_succ, List.set_cons_zero]) | ((refine rd (by rfl) (ex_bDr s SA sc rfl rfl) ?_); simp only [Act.put, List.setIfInBounds_toArray, List.set_cons_succ, List.set_cons_zero]) | ((refine bxD (wb := w) s SA sc (by rfl) rfl rfl (unhide LL) (unhide LL).fr.size (unhide HPS) (unhide HGS) ?_); intro X7 B7 hE7 L7; replace LL := hide L7; clear L7 hE7; simp only [Act.put, List.setIfInBounds_toArray, List.set_cons_succ, List.set_cons_zero]) | ((refine bsP (cs := [ptr ⟨B7, 400, fresh s SA sc⟩]) (by rfl) rfl rfl Try.underlying50 infXp (by decide) rfl rfl (by decide) (unhide LL) ?_); intro X8 B8 hE8 L8 hb8; replace LL := hide L8; clear L8 hb8 hE8; simp only [Act.put, List.setIfInBounds_toArray, List.set_cons_succ, List.set_cons_zero]) | ((refine apS (size := 1) (bytes := 8) (base := w.heap.size) (k := ds.length) (xs := ds.map ptr) (news := [ptr ⟨B7, 400, fresh s SA sc⟩]) (v := .slice A ds.length c) 2 0 rfl rfl rfl rfl Try.underlying50 infXp rfl (by decide) (unhide LL) rfl rfl rfl (ptr_one _) (by have := unhide HDL; have := unhide HZ; have := unhide HLT; omega) (by decide) (unhide LL).fr.size ?_); intro A9 c9 X9 L9; replace LL := hide L9; clear L9; simp only [Act.put, List.setIfInBounds_toArray, List.set_cons_succ, List.set_cons_zero])))
      have LN : Hid (Sy w X9 [] (core w (.slice A9 (ds ++ [(⟨B7, 400, fresh s SA sc⟩ : DB)]).length c9) (ds ++ [(⟨B7, 400, fresh s SA sc⟩ : DB)]))) := hide (by rw [core_snoc, List.length_append]; exact (unhide LL).tail.tail)
      clear LL
      go_roundg (l.length - (i + 1))
      case measure => have := unhide HLT; omega
      case rel =>
        refine ⟨i + 1, A9, c9, ds ++ [⟨B7, 400, fresh s SA sc⟩], by go_num, by have := unhide HLT; omega, by omega, by simp, hide (by have := unhide HDL; simp; omega), hide ⟨?_, ?_⟩, LN⟩
        · obtain ⟨hi2, he2⟩ := List.getElem?_eq_some_iff.1 (unhide HS)
          rw [List.take_succ_eq_append_getElem hi2, ← (unhide HAB).1, he2]
          simp [absL, fresh_abs]
        · intro p hp
          rcases List.mem_append.1 hp with hp | hp
          · exact (unhide HAB).2 p hp
          · rw [List.mem_singleton.1 hp]
    · obtain rfl : i = l.length := by omega
      clear hlt hil
      go_wp2_with (first | go_skip | ((with_reducible show wpList _ _ _ _ _ _); first | ((refine rd (by rfl) (ex_lenG 22 48 Try.underlying22 rfl rfl) ?_); simp only [Act.put, List.setIfInBounds_toArray, List.set_cons_succ, List.set_cons_zero]) | ((refine mkS w.heap.size l.length (by rfl) rfl rfl rfl Try.underlying50 infXp (unhide HZ) (by decide) (by decide) (unhide LL) (unhide LL).fr.size ?_); intro X1 B1 hE1 L1 hb1; replace LL := hide L1; clear L1 hb1 hE1; simp only [Act.put, List.setIfInBounds_toArray, List.set_cons_succ, List.set_cons_zero]) | ((refine rd (by rfl) (ex_indexA 22 8 i unSs idSs rfl rfl (unhide HA) rfl (unhide HLT)) ?_); simp only [Act.put, List.setIfInBounds_toArray, List.set_cons_succ, List.set_cons_zero]) | ((refine rd (by rfl) (ex_loadR (vs := s.cs SA sc) 48 8 rwS szS rfl rfl (unhide HA2 _ (unhide LL).fr) rfl) ?_); simp only [Act.put, List.setIfInBounds_toArray, List.set_cons_succ, List.set_cons_zero]) | ((refine alP (v := .agg (zeroS.cs none 0).toArray) 48 (zeroS.cs none 0) (by rfl) rfl (fun w => by kernel_rfl) rfl (Nat.succ_pos _) (unhide LL) ?_); intro X5 B5 hE5 L5 hb5; replace LL := hide L5; clear L5 hb5 hE5; simp only [Act.put, List.setIfInBounds_toArray, List.set_cons_succ, List.set_cons_zero]) | ((refine stS (vs := s.cs SA sc) 0 48 (by rfl) rfl rfl rfl rfl (shcs_one s SA sc) szS (unhide LL) rfl (by simp [cput, SH.cs, VV.cs, zeroS, zeroV]) ?_); intro X6 L6 hf6 hs6; replace LL := hide L6; clear L6 hf6 hs6; simp only [Act.put, List.setIfInBounds_toArray, List.set_cons_succ, List.set_cons_zero]) | ((refine rd (by rfl) (ex_loadN (vs := s.cs SA sc) 48 8 rwS szS rfl rfl ((unhide LL).hold 0 rfl) rfl rfl) ?_); simp only [Act.put, List.setIfInBounds_toArray, List.set_cons_succ, List.set_cons_zero]) | ((refine rd (by rfl) (ex_bDr s SA sc rfl rfl) ?_); simp only [Act.put, List.setIfInBounds_toArray, List.set_cons_succ, List.set_cons_zero]) | ((refine bxD (wb := w) s SA sc (by rfl) rfl rfl (unhide LL) (unhide LL).fr.size (unhide HPS) (unhide HGS) ?_); intro X7 B7 hE7 L7; replace LL := hide L7; clear L7 hE7; simp only [Act.put, List.setIfInBounds_toArray, List.set_cons_succ, List.set_cons_zero]) | ((refine bsP (cs := [ptr ⟨B7, 400, fresh s SA sc⟩]) (by rfl) rfl rfl Try.underlying50 infXp (by decide) rfl rfl (by decide) (unhide LL) ?_); intro X8 B8 hE8 L8 hb8; replace LL := hide L8; clear L8 hb8 hE8; simp only [Act.put, List.setIfInBounds_toArray, List.set_cons_succ, List.set_cons_zero]) | ((refine apS (size := 1) (bytes := 8) (base := w.heap.size) (k := ds.length) (xs := ds.map ptr) (news := [ptr ⟨B7, 400, fresh s SA sc⟩]) (v := .slice A ds.length c) 2 0 rfl rfl rfl rfl Try.underlying50 infXp rfl (by decide) (unhide LL) rfl rfl rfl (ptr_one _) (by have := unhide HDL; have := unhide HZ; have := unhide HLT; omega) (by decide) (unhide LL).fr.size ?_); intro A9 c9 X9 L9; replace LL := hide L9; clear L9; simp only [Act.put, List.setIfInBounds_toArray, List.set_cons_succ, List.set_cons_zero])))
      go_ret
      exact ⟨_, ds, rfl, unhide LL, by rw [(unhide HAB).1, List.take_length], (unhide HAB).2⟩
end Go.Proofs.Ytcflglloopgieaa
