import Derived.Test.YtfefpbjkbmaicaaGreatDoorRe
set_option linter.all false
namespace Go.Proofs.YtfefpbjkbmaicaaGreatDoor
set_option maxRecDepth 100000
set_option maxHeartbeats 0
section
open Go Go.Proofs Go.Maps Go.RowKit FM Tryz
attribute [local go_sem] Av Ap Dv Du De Au Ao Az Dd Gu Gt
theorem Jb {o:Oper} {a:Act} {w:World} {x y:Operand} {n m:Int} (ho:o.op= .binOp .neq 3 x y 3) (hx:a.eval x= .int .i64 n) (hc:a.eval y= .int .i64 m) (h:n≠m):(execOp a.eval o).run prog w= .ok (.value (.bool true)) w:=by
 unfold execOp
 simp only[ho,hx,hc]
 simp[go_sem,eqGuard,h]
theorem Ex {o:Oper} {a:Act} {w:World} {x y:Operand} {n m:Int} (ho:o.op= .binOp .neq 3 x y 3) (hx:a.eval x= .int .i64 n) (hc:a.eval y= .int .i64 m) (h:n=m):(execOp a.eval o).run prog w= .ok (.value (.bool false)) w:=by
 unfold execOp
 simp only[ho,hx,hc]
 simp[go_sem,eqGuard,h]
def Dh (k:KK):Int:=if goodK k then 0 else 5
theorem Qe (k:KK) (w:World) (hT:Lib.Utf8Tabs 4 5 w):Calls prog 37 #[k.agg] w fun e w'=>e= .returned (.int .i64 (Dh k))/\Below w.heap.size w w':=Yk k.s k.n w hT
theorem Ah {w:World} {B:Nat} {l:List VV} (h:Holds w B (l.flatMap VV.cs)):ReadsV w (some ⟨B,0,none⟩) l:=fun j v hj=>by
 have hlt:=(List.getElem?_eq_some_iff.1 hj).1
 have hv:=(List.getElem?_eq_some_iff.1 hj).2
 have hlen:(l.flatMap VV.cs).length=l.length * 5:=Nd VV.cs 5 (fun _=>rfl) l
 refine⟨B,0,rfl,h.lt (by omega),fun t u hu=> ?_⟩
 have ht:t<5:=by have:=(List.getElem?_eq_some_iff.1 hu).1;simpa [VV.cs] using this
 have h2:=Ui VV.cs 5 (fun _=>rfl) l j t hlt ht
 rw[hv,hu] at h2
 have:=h.cell (j * 5+t) h2
 rw[Nat.zero_add]
 exact this
section
variable {md : Region.Mode} {ops : Array Oper} {Q : Exit → Act → World → Prop} {S : World → Prop} {w w0 : World} {fuel : Nat} {listed : Array Bool} {a : Act} {o : Oper} {E : List Nat} {L : List Ob}
theorem Ar {cs:List Value} {t n:Nat} (i:Nat) (dst:Option Tmp) {rs:List Nat} (hi:ops[i]? =some o) (hd:o.dst=dst) (hw:Region.wanted o (yielded ops a.tmps)=true) (he:(execOp a.eval o).run prog w= .ok (.value (.slice (some ⟨w.heap.size,0,none⟩) n n)) (w.alloc (Obj.cells cs.toArray t))) (hc:0<cs.length) (hL:Sy w0 w E L)
  (hS: ∀X,Sy w0 X E (L++ [Al w.heap.size cs])->S X) (h: ∀X B,B=w.heap.size->Sy w0 X E (L++ [Al B cs])->wpAnyH prog md ops Q S fuel (listed.setIfInBounds i true) (a.put dst (.slice (some ⟨B,0,none⟩) n n)) X) (hs:AllReadyH prog md ops Q S fuel listed a w rs):AllReadyH prog md ops Q S fuel listed a w (i::rs):=by
 have hb:=hL.box cs t hc
 exact ZaW i dst hi hd hw he (hS _ hb) (h _ _ rfl hb) hs
end
theorem Bi {o:Oper} {a:Act} {w:World} {x0:Operand} {v0:VV} (ho:o.op= .buildSlice 22 1 #[(0,x0)]) (h0:a.eval x0= .agg v0.cs.toArray):(execOp a.eval o).run prog w= .ok (.value (.slice (some ⟨w.heap.size,0,none⟩) 1 1)) (w.alloc (Obj.cells ([v0].flatMap VV.cs).toArray 26)):=by
 have e:(Instr.buildSlice 22 1 #[(0, .agg v0.cs.toArray)]).run prog w= .ok (.slice (some ⟨w.heap.size,0,none⟩) 1 1) (w.alloc (Obj.cells ([v0].flatMap VV.cs).toArray 26)):=by kernel_rfl
 unfold execOp
 simp only[ho,List.map_toArray,List.map_cons,List.map_nil,h0]
 simp[e]
theorem Dl {o:Oper} {a:Act} {w:World} {x0 x1:Operand} {v0 v1:VV} (ho:o.op= .buildSlice 22 2 #[(0,x0),(1,x1)]) (h0:a.eval x0= .agg v0.cs.toArray) (h1:a.eval x1= .agg v1.cs.toArray):(execOp a.eval o).run prog w= .ok (.value (.slice (some ⟨w.heap.size,0,none⟩) 2 2)) (w.alloc (Obj.cells ([v0,v1].flatMap VV.cs).toArray 26)):=by
 have e:(Instr.buildSlice 22 2 #[(0, .agg v0.cs.toArray),(1, .agg v1.cs.toArray)]).run prog w= .ok (.slice (some ⟨w.heap.size,0,none⟩) 2 2) (w.alloc (Obj.cells ([v0,v1].flatMap VV.cs).toArray 26)):=by kernel_rfl
 unfold execOp
 simp only[ho,List.map_toArray,List.map_cons,List.map_nil,h0,h1]
 simp[e]
theorem Gm {o:Oper} {a:Act} {w:World} {x0 x1 x2:Operand} {v0 v1 v2:VV} (ho:o.op= .buildSlice 22 3 #[(0,x0),(1,x1),(2,x2)]) (h0:a.eval x0= .agg v0.cs.toArray) (h1:a.eval x1= .agg v1.cs.toArray) (h2:a.eval x2= .agg v2.cs.toArray):(execOp a.eval o).run prog w= .ok (.value (.slice (some ⟨w.heap.size,0,none⟩) 3 3)) (w.alloc (Obj.cells ([v0,v1,v2].flatMap VV.cs).toArray 26)):=by
 have e:(Instr.buildSlice 22 3 #[(0, .agg v0.cs.toArray),(1, .agg v1.cs.toArray),(2, .agg v2.cs.toArray)]).run prog w= .ok (.slice (some ⟨w.heap.size,0,none⟩) 3 3) (w.alloc (Obj.cells ([v0,v1,v2].flatMap VV.cs).toArray 26)):=by kernel_rfl
 unfold execOp
 simp only[ho,List.map_toArray,List.map_cons,List.map_nil,h0,h1,h2]
 simp[e]
theorem ZbD {o:Oper} {a:Act} {w:World} {x0 x1:Operand} {e0 e1:Int} (ho:o.op= .buildSlice 100 2 #[(0,x0),(1,x1)]) (h0:a.eval x0= .int .i64 e0) (h1:a.eval x1= .int .i64 e1):(execOp a.eval o).run prog w= .ok (.value (.slice (some ⟨w.heap.size,0,none⟩) 2 2)) (w.alloc (Obj.cells (Lq [e0,e1]).toArray 32)):=by
 have e:(Instr.buildSlice 100 2 #[(0, .int .i64 e0),(1, .int .i64 e1)]).run prog w= .ok (.slice (some ⟨w.heap.size,0,none⟩) 2 2) (w.alloc (Obj.cells (Lq [e0,e1]).toArray 32)):=by kernel_rfl
 unfold execOp
 simp only[ho,List.map_toArray,List.map_cons,List.map_nil,h0,h1]
 simp[e]
theorem ZbC {o:Oper} {a:Act} {w:World} {x0 x1 x2:Operand} {e0 e1 e2:Int} (ho:o.op= .buildSlice 100 3 #[(0,x0),(1,x1),(2,x2)]) (h0:a.eval x0= .int .i64 e0) (h1:a.eval x1= .int .i64 e1) (h2:a.eval x2= .int .i64 e2):(execOp a.eval o).run prog w= .ok (.value (.slice (some ⟨w.heap.size,0,none⟩) 3 3)) (w.alloc (Obj.cells (Lq [e0,e1,e2]).toArray 32)):=by
 have e:(Instr.buildSlice 100 3 #[(0, .int .i64 e0),(1, .int .i64 e1),(2, .int .i64 e2)]).run prog w= .ok (.slice (some ⟨w.heap.size,0,none⟩) 3 3) (w.alloc (Obj.cells (Lq [e0,e1,e2]).toArray 32)):=by kernel_rfl
 unfold execOp
 simp only[ho,List.map_toArray,List.map_cons,List.map_nil,h0,h1,h2]
 simp[e]
theorem Dr {o:Oper} {a:Act} {w:World} {x0 x1 x2 x3:Operand} {e0 e1 e2 e3:Int} (ho:o.op= .buildSlice 100 4 #[(0,x0),(1,x1),(2,x2),(3,x3)]) (h0:a.eval x0= .int .i64 e0) (h1:a.eval x1= .int .i64 e1) (h2:a.eval x2= .int .i64 e2) (h3:a.eval x3= .int .i64 e3):(execOp a.eval o).run prog w= .ok (.value (.slice (some ⟨w.heap.size,0,none⟩) 4 4)) (w.alloc (Obj.cells (Lq [e0,e1,e2,e3]).toArray 32)):=by
 have e:(Instr.buildSlice 100 4 #[(0, .int .i64 e0),(1, .int .i64 e1),(2, .int .i64 e2),(3, .int .i64 e3)]).run prog w= .ok (.slice (some ⟨w.heap.size,0,none⟩) 4 4) (w.alloc (Obj.cells (Lq [e0,e1,e2,e3]).toArray 32)):=by kernel_rfl
 unfold execOp
 simp only[ho,List.map_toArray,List.map_cons,List.map_nil,h0,h1,h2,h3]
 simp[e]
theorem Ed {o:Oper} {a:Act} {w:World} {x0 x1 x2 x3 x4:Operand} {e0 e1 e2 e3 e4:Int} (ho:o.op= .buildSlice 100 5 #[(0,x0),(1,x1),(2,x2),(3,x3),(4,x4)]) (h0:a.eval x0= .int .i64 e0) (h1:a.eval x1= .int .i64 e1) (h2:a.eval x2= .int .i64 e2) (h3:a.eval x3= .int .i64 e3) (h4:a.eval x4= .int .i64 e4):(execOp a.eval o).run prog w= .ok (.value (.slice (some ⟨w.heap.size,0,none⟩) 5 5)) (w.alloc (Obj.cells (Lq [e0,e1,e2,e3,e4]).toArray 32)):=by
 have e:(Instr.buildSlice 100 5 #[(0, .int .i64 e0),(1, .int .i64 e1),(2, .int .i64 e2),(3, .int .i64 e3),(4, .int .i64 e4)]).run prog w= .ok (.slice (some ⟨w.heap.size,0,none⟩) 5 5) (w.alloc (Obj.cells (Lq [e0,e1,e2,e3,e4]).toArray 32)):=by kernel_rfl
 unfold execOp
 simp only[ho,List.map_toArray,List.map_cons,List.map_nil,h0,h1,h2,h3,h4]
 simp[e]
def Jr (v:VV):Int:=if v.k=2∨v.k=7 then 0 else 5
theorem Oa (v:VV) (w:World):Calls prog 51 #[v.agg] w fun e w'=>e= .returned (.int .i64 (Jr v))/\Below w.heap.size w w':=by
 unfold Jr
 by_cases h2:v.k=2
 ·rw[if_pos (Or.inl h2)]
  have SS:=Ac (Sy.nil w [])
  rw[Dk]
  go_enter func51,ntmps51
  go_wp2_with (first|go_skip|((with_reducible show wpList ..);first|(refine zB 26 (v.cs) (by rfl) rfl rfl rfl SS ?_;clear SS;intro X1 B1 SS;simp only[nn])|(refine rd rfl (Aj 3 isAgg3 rfl rfl ((Aa SS).hold 0 rfl) rfl) ?_)|(refine rd rfl (Ex rfl rfl rfl h2) ?_)))
  go_ret
  exact⟨rfl,(Aa SS).fr.below⟩
 ·by_cases h7:v.k=7
  ·rw[if_pos (Or.inr h7)]
   have SS:=Ac (Sy.nil w [])
   rw[Dk]
   go_enter func51,ntmps51
   go_wp2_with (first|go_skip|((with_reducible show wpList ..);first|(refine zB 26 (v.cs) (by rfl) rfl rfl rfl SS ?_;clear SS;intro X1 B1 SS;simp only[nn])|(refine rd rfl (Aj 3 isAgg3 rfl rfl ((Aa SS).hold 0 rfl) rfl) ?_)|(refine rd rfl (Jb rfl rfl rfl h2) ?_)|(refine rd rfl (Ex rfl rfl rfl h7) ?_)))
   go_ret
   exact⟨rfl,(Aa SS).fr.below⟩
  ·rw[if_neg (by simp[h2,h7])]
   have SS:=Ac (Sy.nil w [])
   rw[Dk]
   go_enter func51,ntmps51
   go_wp2_with (first|go_skip|((with_reducible show wpList ..);first|(refine zB 26 (v.cs) (by rfl) rfl rfl rfl SS ?_;clear SS;intro X1 B1 SS;simp only[nn])|(refine rd rfl (Aj 3 isAgg3 rfl rfl ((Aa SS).hold 0 rfl) rfl) ?_)|(refine rd rfl (Jb rfl rfl rfl h2) ?_)|(refine rd rfl (Jb rfl rfl rfl h7) ?_)))
   go_ret
   exact⟨rfl,(Aa SS).fr.below⟩
