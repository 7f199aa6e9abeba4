import Derived.Test.YtmgflhhealdfoaaGreatDoorQl
import Derived.Deep.MidRow
import Derived.BigFrame
set_option linter.all false
namespace Go.Proofs.YtmgflhhealdfoaaGreatDoor
section
open Go Go.Proofs Go.RowKit FM
def DD.cs (d : DD) : List Value := [.int .i64 d.v.k, .bool d.v.b, .float .f64 d.v.x, .string d.v.s, .int .i64 d.v.i, .int .i64 d.g.k, .bool d.g.b, .float .f64 d.g.x, .string d.g.s, .int .i64 d.g.i, .int .i64 d.s.k, .bool d.s.b, .float .f64 d.s.x, .string d.s.s, .int .i64 d.s.i, .int .i64 d.w, .int .i64 d.e, .int .i64 d.c]
def VV.cs (d : VV) : List Value := [.int .i64 d.k, .bool d.b, .float .f64 d.x, .string d.s, .int .i64 d.i]
theorem Lies.range {W : World} {B : Nat} {d : DD} (h : Lies W B d) : W.rangeAt B 0 [.int .i64 d.v.k, .bool d.v.b, .float .f64 d.v.x, .string d.v.s, .int .i64 d.v.i, .int .i64 d.g.k, .bool d.g.b, .float .f64 d.g.x, .string d.g.s, .int .i64 d.g.i, .int .i64 d.s.k, .bool d.s.b, .float .f64 d.s.x, .string d.s.s, .int .i64 d.s.i, .int .i64 d.w, .int .i64 d.e, .int .i64 d.c] := by
  intro j v hv
  obtain ⟨-, h0, h1, h2, h3, h4, h5, h6, h7, h8, h9, h10, h11, h12, h13, h14, h15, h16, h17⟩ := h
  match j, hv with
  | 0, hv => exact (Option.some.inj hv) ▸ h0
  | 1, hv => exact (Option.some.inj hv) ▸ h1
  | 2, hv => exact (Option.some.inj hv) ▸ h2
  | 3, hv => exact (Option.some.inj hv) ▸ h3
  | 4, hv => exact (Option.some.inj hv) ▸ h4
  | 5, hv => exact (Option.some.inj hv) ▸ h5
  | 6, hv => exact (Option.some.inj hv) ▸ h6
  | 7, hv => exact (Option.some.inj hv) ▸ h7
  | 8, hv => exact (Option.some.inj hv) ▸ h8
  | 9, hv => exact (Option.some.inj hv) ▸ h9
  | 10, hv => exact (Option.some.inj hv) ▸ h10
  | 11, hv => exact (Option.some.inj hv) ▸ h11
  | 12, hv => exact (Option.some.inj hv) ▸ h12
  | 13, hv => exact (Option.some.inj hv) ▸ h13
  | 14, hv => exact (Option.some.inj hv) ▸ h14
  | 15, hv => exact (Option.some.inj hv) ▸ h15
  | 16, hv => exact (Option.some.inj hv) ▸ h16
  | 17, hv => exact (Option.some.inj hv) ▸ h17
  | _ + 18, hv => exact absurd hv (by simp)
theorem Lies.rv {W : World} {B : Nat} {d : DD} (h : Lies W B d) : W.rangeAt B 0 [.int .i64 d.v.k, .bool d.v.b, .float .f64 d.v.x, .string d.v.s, .int .i64 d.v.i] := by
  intro j v hv
  obtain ⟨-, h0, h1, h2, h3, h4, h5, h6, h7, h8, h9, h10, h11, h12, h13, h14, h15, h16, h17⟩ := h
  match j, hv with
  | 0, hv => exact (Option.some.inj hv) ▸ h0
  | 1, hv => exact (Option.some.inj hv) ▸ h1
  | 2, hv => exact (Option.some.inj hv) ▸ h2
  | 3, hv => exact (Option.some.inj hv) ▸ h3
  | 4, hv => exact (Option.some.inj hv) ▸ h4
  | _ + 5, hv => exact absurd hv (by simp)
theorem Lies.rg {W : World} {B : Nat} {d : DD} (h : Lies W B d) : W.rangeAt B 5 [.int .i64 d.g.k, .bool d.g.b, .float .f64 d.g.x, .string d.g.s, .int .i64 d.g.i] := by
  intro j v hv
  obtain ⟨-, h0, h1, h2, h3, h4, h5, h6, h7, h8, h9, h10, h11, h12, h13, h14, h15, h16, h17⟩ := h
  match j, hv with
  | 0, hv => exact (Option.some.inj hv) ▸ h5
  | 1, hv => exact (Option.some.inj hv) ▸ h6
  | 2, hv => exact (Option.some.inj hv) ▸ h7
  | 3, hv => exact (Option.some.inj hv) ▸ h8
  | 4, hv => exact (Option.some.inj hv) ▸ h9
  | _ + 5, hv => exact absurd hv (by simp)
theorem Lies.rs {W : World} {B : Nat} {d : DD} (h : Lies W B d) : W.rangeAt B 10 [.int .i64 d.s.k, .bool d.s.b, .float .f64 d.s.x, .string d.s.s, .int .i64 d.s.i] := by
  intro j v hv
  obtain ⟨-, h0, h1, h2, h3, h4, h5, h6, h7, h8, h9, h10, h11, h12, h13, h14, h15, h16, h17⟩ := h
  match j, hv with
  | 0, hv => exact (Option.some.inj hv) ▸ h10
  | 1, hv => exact (Option.some.inj hv) ▸ h11
  | 2, hv => exact (Option.some.inj hv) ▸ h12
  | 3, hv => exact (Option.some.inj hv) ▸ h13
  | 4, hv => exact (Option.some.inj hv) ▸ h14
  | _ + 5, hv => exact absurd hv (by simp)
theorem info38 : (Tryz.prog.info? 38).map (·.size) = some 18 := by kernel_rfl
theorem isrow27 : ∃ d, Tryz.prog.underlying 38 = some d ∧ d.isRow = true := ⟨_, Tryz.underlying38, rfl⟩
theorem info24' : (Tryz.prog.info? 24).map (·.size) = some 5 := by kernel_rfl
theorem isrow24 : ∃ d, Tryz.prog.underlying 24 = some d ∧ d.isRow = true := ⟨_, Tryz.underlying24, rfl⟩
theorem load27 {ops : Array Oper} {rest : List Oper} {o : Oper} {a : Act} {w : World} {Q : Exit → Act → World → Prop} {x : Operand} {b : Nat} {d : DD} (hw : Region.wanted o (yielded ops a.tmps) = true) (ho : o.op = .load 38 x)
    (hx : a.eval x = .pointer (some ⟨b, 0, none⟩)) (hc : Lies w b d) (h : wpList Tryz.prog ops Q rest (a.put o.dst d.agg) w) : wpList Tryz.prog ops Q (o :: rest) a w := by
  obtain ⟨t, hu, hd⟩ := isrow27
  refine BigFrame.wpList_want hw fun K hK => ?_
  exact wp_load_mid 38 x ho b 0 hx _ t hc.range hu hd info38 (hK _ _ h)
theorem load24v {ops : Array Oper} {rest : List Oper} {o : Oper} {a : Act} {w : World} {Q : Exit → Act → World → Prop} {x : Operand} {b : Nat} {d : DD} (hw : Region.wanted o (yielded ops a.tmps) = true) (ho : o.op = .load 24 x)
    (hx : a.eval x = .pointer (some ⟨b, 0, none⟩)) (hc : Lies w b d) (h : wpList Tryz.prog ops Q rest (a.put o.dst d.v.agg) w) : wpList Tryz.prog ops Q (o :: rest) a w := by
  obtain ⟨t, hu, hd⟩ := isrow24
  refine BigFrame.wpList_want hw fun K hK => ?_
  exact wp_load_mid 24 x ho b 0 hx _ t hc.rv hu hd info24' (hK _ _ h)
theorem load24g {ops : Array Oper} {rest : List Oper} {o : Oper} {a : Act} {w : World} {Q : Exit → Act → World → Prop} {x : Operand} {b : Nat} {d : DD} (hw : Region.wanted o (yielded ops a.tmps) = true) (ho : o.op = .load 24 x)
    (hx : a.eval x = .pointer (some ⟨b, 5, none⟩)) (hc : Lies w b d) (h : wpList Tryz.prog ops Q rest (a.put o.dst d.g.agg) w) : wpList Tryz.prog ops Q (o :: rest) a w := by
  obtain ⟨t, hu, hd⟩ := isrow24
  refine BigFrame.wpList_want hw fun K hK => ?_
  exact wp_load_mid 24 x ho b 5 hx _ t hc.rg hu hd info24' (hK _ _ h)
theorem load24s {ops : Array Oper} {rest : List Oper} {o : Oper} {a : Act} {w : World} {Q : Exit → Act → World → Prop} {x : Operand} {b : Nat} {d : DD} (hw : Region.wanted o (yielded ops a.tmps) = true) (ho : o.op = .load 24 x)
    (hx : a.eval x = .pointer (some ⟨b, 10, none⟩)) (hc : Lies w b d) (h : wpList Tryz.prog ops Q rest (a.put o.dst d.s.agg) w) : wpList Tryz.prog ops Q (o :: rest) a w := by
  obtain ⟨t, hu, hd⟩ := isrow24
  refine BigFrame.wpList_want hw fun K hK => ?_
  exact wp_load_mid 24 x ho b 10 hx _ t hc.rs hu hd info24' (hK _ _ h)
theorem load25w {ops : Array Oper} {rest : List Oper} {o : Oper} {a : Act} {w : World} {Q : Exit → Act → World → Prop} {x : Operand} {b : Nat} {d : DD} (hw : Region.wanted o (yielded ops a.tmps) = true) (ho : o.op = .load 36 x)
    (hx : a.eval x = .pointer (some ⟨b, 15, none⟩)) (hc : Lies w b d) (h : wpList Tryz.prog ops Q rest (a.put o.dst (.int .i64 d.w)) w) : wpList Tryz.prog ops Q (o :: rest) a w := by
  obtain ⟨-, h0, h1, h2, h3, h4, h5, h6, h7, h8, h9, h10, h11, h12, h13, h14, h15, h16, h17⟩ := hc
  refine BigFrame.wpList_want hw fun K hK => ?_
  unfold Oper.wp execOp
  simp only [ho, hx]
  simp [go_sem, h15, Tryz.isAgg36]
  exact hK _ _ h
theorem load25e {ops : Array Oper} {rest : List Oper} {o : Oper} {a : Act} {w : World} {Q : Exit → Act → World → Prop} {x : Operand} {b : Nat} {d : DD} (hw : Region.wanted o (yielded ops a.tmps) = true) (ho : o.op = .load 36 x)
    (hx : a.eval x = .pointer (some ⟨b, 16, none⟩)) (hc : Lies w b d) (h : wpList Tryz.prog ops Q rest (a.put o.dst (.int .i64 d.e)) w) : wpList Tryz.prog ops Q (o :: rest) a w := by
  obtain ⟨-, h0, h1, h2, h3, h4, h5, h6, h7, h8, h9, h10, h11, h12, h13, h14, h15, h16, h17⟩ := hc
  refine BigFrame.wpList_want hw fun K hK => ?_
  unfold Oper.wp execOp
  simp only [ho, hx]
  simp [go_sem, h16, Tryz.isAgg36]
  exact hK _ _ h
theorem load25c {ops : Array Oper} {rest : List Oper} {o : Oper} {a : Act} {w : World} {Q : Exit → Act → World → Prop} {x : Operand} {b : Nat} {d : DD} (hw : Region.wanted o (yielded ops a.tmps) = true) (ho : o.op = .load 36 x)
    (hx : a.eval x = .pointer (some ⟨b, 17, none⟩)) (hc : Lies w b d) (h : wpList Tryz.prog ops Q rest (a.put o.dst (.int .i64 d.c)) w) : wpList Tryz.prog ops Q (o :: rest) a w := by
  obtain ⟨-, h0, h1, h2, h3, h4, h5, h6, h7, h8, h9, h10, h11, h12, h13, h14, h15, h16, h17⟩ := hc
  refine BigFrame.wpList_want hw fun K hK => ?_
  unfold Oper.wp execOp
  simp only [ho, hx]
  simp [go_sem, h17, Tryz.isAgg36]
  exact hK _ _ h
