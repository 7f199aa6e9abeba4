import Derived.Test.YthcmamjpfigdfaaGreatDoorRj
set_option linter.all false
namespace Go.Proofs.YthcmamjpfigdfaaGreatDoor
set_option maxRecDepth 100000
set_option maxHeartbeats 0
section
open Go Go.Proofs Go.Maps Go.RowKit FM Tryz
attribute [local go_sem] Al Ak Ar Ah Am Ai Au Dd Db Bi Aj Bh
def Da (k:KK):Int:=if goodK k then 0 else 5
theorem Xn (k:KK) (w:World) (hT:Lib.Utf8Tabs 1 2 w):Calls prog 38 #[k.agg] w fun e w'=>e= .returned (.int .i64 (Da k))/\Below w.heap.size w w':=Zu k.s k.n w hT
theorem Dy {w:World} {B:Nat} {l:List VV} (h:Holds w B (l.flatMap VV.cs)):Kx w (some ⟨B,0,none⟩) l:=fun j v hj=>by
 have hlt:=(List.getElem?_eq_some_iff.1 hj).1
 have hv:=(List.getElem?_eq_some_iff.1 hj).2
 have hlen:(l.flatMap VV.cs).length=l.length * 5:=Qc VV.cs 5 (fun _=>rfl) l
 refine⟨B,0,rfl,h.lt (by omega),fun t u hu=> ?_⟩
 have ht:t<5:=by have:=(List.getElem?_eq_some_iff.1 hu).1;simpa [VV.cs] using this
 have h2:=Vh VV.cs 5 (fun _=>rfl) l j t hlt ht
 rw[hv,hu] at h2
 have:=h.cell (j * 5+t) h2
 rw[Nat.zero_add]
 exact this
section
variable {md:Region.Mode} {ops:Array Oper} {Q:Exit->Act->World->Prop} {S:World->Prop} {w w0:World} {fuel:Nat} {listed:Array Bool} {a:Act} {o:Oper} {E:List Nat} {L:List Ob}
theorem Nl {cs:List Value} {t n:Nat} (i:Nat) (dst:Option Tmp) {rs:List Nat} (hi:ops[i]? =some o) (hd:o.dst=dst)  (he:(execOp a.eval o).run prog w= .ok (.value (.slice (some ⟨w.heap.size,0,none⟩) n n)) (w.alloc (Obj.cells cs.toArray t)))  (hL:Sy w0 w E L)
  (hS: ∀X,Sy w0 X E (L++ [Av w.heap.size cs])->S X) (h: ∀X B,B=w.heap.size->Sy w0 X E (L++ [Av B cs])->wpAnyH prog md ops Q S fuel (listed.setIfInBounds i true) (a.put dst (.slice (some ⟨B,0,none⟩) n n)) X) (hs:AllReadyH prog md ops Q S fuel listed a w rs) (hw:Region.wanted o (yielded ops a.tmps)=true:=by kernel_rfl) (hc:0<cs.length:=by exact Nat.succ_pos _):AllReadyH prog md ops Q S fuel listed a w (i::rs):=by
 have hb:=hL.box cs t hc
 exact Qb i dst hi hd hw he (hS _ hb) (h _ _ rfl hb) hs
end
theorem Ox {o:Oper} {a:Act} {w:World} {x0:Operand} {v0:VV} (ho:o.op= .buildSlice 44 1 #[(0,x0)]) (h0:a.eval x0= .agg v0.cs.toArray):(execOp a.eval o).run prog w= .ok (.value (.slice (some ⟨w.heap.size,0,none⟩) 1 1)) (w.alloc (Obj.cells ([v0].flatMap VV.cs).toArray 40)):=by
 have e:(Instr.buildSlice 44 1 #[(0, .agg v0.cs.toArray)]).run prog w= .ok (.slice (some ⟨w.heap.size,0,none⟩) 1 1) (w.alloc (Obj.cells ([v0].flatMap VV.cs).toArray 40)):=by kernel_rfl
 unfold execOp
 simp only[ho,List.map_toArray,List.map_cons,List.map_nil,h0]
 simp[e]
theorem ZcE {o:Oper} {a:Act} {w:World} {x0 x1:Operand} {v0 v1:VV} (ho:o.op= .buildSlice 44 2 #[(0,x0),(1,x1)]) (h0:a.eval x0= .agg v0.cs.toArray) (h1:a.eval x1= .agg v1.cs.toArray):(execOp a.eval o).run prog w= .ok (.value (.slice (some ⟨w.heap.size,0,none⟩) 2 2)) (w.alloc (Obj.cells ([v0,v1].flatMap VV.cs).toArray 40)):=by
 have e:(Instr.buildSlice 44 2 #[(0, .agg v0.cs.toArray),(1, .agg v1.cs.toArray)]).run prog w= .ok (.slice (some ⟨w.heap.size,0,none⟩) 2 2) (w.alloc (Obj.cells ([v0,v1].flatMap VV.cs).toArray 40)):=by kernel_rfl
 unfold execOp
 simp only[ho,List.map_toArray,List.map_cons,List.map_nil,h0,h1]
 simp[e]
theorem ex_bsV3 {o:Oper} {a:Act} {w:World} {x0 x1 x2:Operand} {v0 v1 v2:VV} (ho:o.op= .buildSlice 44 3 #[(0,x0),(1,x1),(2,x2)]) (h0:a.eval x0= .agg v0.cs.toArray) (h1:a.eval x1= .agg v1.cs.toArray) (h2:a.eval x2= .agg v2.cs.toArray):(execOp a.eval o).run prog w= .ok (.value (.slice (some ⟨w.heap.size,0,none⟩) 3 3)) (w.alloc (Obj.cells ([v0,v1,v2].flatMap VV.cs).toArray 40)):=by
 have e:(Instr.buildSlice 44 3 #[(0, .agg v0.cs.toArray),(1, .agg v1.cs.toArray),(2, .agg v2.cs.toArray)]).run prog w= .ok (.slice (some ⟨w.heap.size,0,none⟩) 3 3) (w.alloc (Obj.cells ([v0,v1,v2].flatMap VV.cs).toArray 40)):=by kernel_rfl
 unfold execOp
 simp only[ho,List.map_toArray,List.map_cons,List.map_nil,h0,h1,h2]
 simp[e]
theorem ZcG {o:Oper} {a:Act} {w:World} {x0 x1:Operand} {e0 e1:Int} (ho:o.op= .buildSlice 159 2 #[(0,x0),(1,x1)]) (h0:a.eval x0= .int .i64 e0) (h1:a.eval x1= .int .i64 e1):(execOp a.eval o).run prog w= .ok (.value (.slice (some ⟨w.heap.size,0,none⟩) 2 2)) (w.alloc (Obj.cells (Mr [e0,e1]).toArray 31)):=by
 have e:(Instr.buildSlice 159 2 #[(0, .int .i64 e0),(1, .int .i64 e1)]).run prog w= .ok (.slice (some ⟨w.heap.size,0,none⟩) 2 2) (w.alloc (Obj.cells (Mr [e0,e1]).toArray 31)):=by kernel_rfl
 unfold execOp
 simp only[ho,List.map_toArray,List.map_cons,List.map_nil,h0,h1]
 simp[e]
theorem Zfy {o:Oper} {a:Act} {w:World} {x0 x1 x2:Operand} {e0 e1 e2:Int} (ho:o.op= .buildSlice 159 3 #[(0,x0),(1,x1),(2,x2)]) (h0:a.eval x0= .int .i64 e0) (h1:a.eval x1= .int .i64 e1) (h2:a.eval x2= .int .i64 e2):(execOp a.eval o).run prog w= .ok (.value (.slice (some ⟨w.heap.size,0,none⟩) 3 3)) (w.alloc (Obj.cells (Mr [e0,e1,e2]).toArray 31)):=by
 have e:(Instr.buildSlice 159 3 #[(0, .int .i64 e0),(1, .int .i64 e1),(2, .int .i64 e2)]).run prog w= .ok (.slice (some ⟨w.heap.size,0,none⟩) 3 3) (w.alloc (Obj.cells (Mr [e0,e1,e2]).toArray 31)):=by kernel_rfl
 unfold execOp
 simp only[ho,List.map_toArray,List.map_cons,List.map_nil,h0,h1,h2]
 simp[e]
theorem ZcF {o:Oper} {a:Act} {w:World} {x0 x1 x2 x3:Operand} {e0 e1 e2 e3:Int} (ho:o.op= .buildSlice 159 4 #[(0,x0),(1,x1),(2,x2),(3,x3)]) (h0:a.eval x0= .int .i64 e0) (h1:a.eval x1= .int .i64 e1) (h2:a.eval x2= .int .i64 e2) (h3:a.eval x3= .int .i64 e3):(execOp a.eval o).run prog w= .ok (.value (.slice (some ⟨w.heap.size,0,none⟩) 4 4)) (w.alloc (Obj.cells (Mr [e0,e1,e2,e3]).toArray 31)):=by
 have e:(Instr.buildSlice 159 4 #[(0, .int .i64 e0),(1, .int .i64 e1),(2, .int .i64 e2),(3, .int .i64 e3)]).run prog w= .ok (.slice (some ⟨w.heap.size,0,none⟩) 4 4) (w.alloc (Obj.cells (Mr [e0,e1,e2,e3]).toArray 31)):=by kernel_rfl
 unfold execOp
 simp only[ho,List.map_toArray,List.map_cons,List.map_nil,h0,h1,h2,h3]
 simp[e]
theorem ex_bsE5 {o:Oper} {a:Act} {w:World} {x0 x1 x2 x3 x4:Operand} {e0 e1 e2 e3 e4:Int} (ho:o.op= .buildSlice 159 5 #[(0,x0),(1,x1),(2,x2),(3,x3),(4,x4)]) (h0:a.eval x0= .int .i64 e0) (h1:a.eval x1= .int .i64 e1) (h2:a.eval x2= .int .i64 e2) (h3:a.eval x3= .int .i64 e3) (h4:a.eval x4= .int .i64 e4):(execOp a.eval o).run prog w= .ok (.value (.slice (some ⟨w.heap.size,0,none⟩) 5 5)) (w.alloc (Obj.cells (Mr [e0,e1,e2,e3,e4]).toArray 31)):=by
 have e:(Instr.buildSlice 159 5 #[(0, .int .i64 e0),(1, .int .i64 e1),(2, .int .i64 e2),(3, .int .i64 e3),(4, .int .i64 e4)]).run prog w= .ok (.slice (some ⟨w.heap.size,0,none⟩) 5 5) (w.alloc (Obj.cells (Mr [e0,e1,e2,e3,e4]).toArray 31)):=by kernel_rfl
 unfold execOp
 simp only[ho,List.map_toArray,List.map_cons,List.map_nil,h0,h1,h2,h3,h4]
 simp[e]
def Df (v:VV):Int:=if v.k=2∨v.k=7 then 0 else 5
theorem Ni (v:VV) (w:World):Calls prog 86 #[v.agg] w fun e w'=>e= .returned (.int .i64 (Df v))/\Below w.heap.size w w':=by
 unfold Df
 by_cases h2:v.k=2
 ·rw[if_pos (Or.inl h2)]
  have SS:=Ab (Sy.nil w [])
  rw[Dg]
  go_enter func86,ntmps86
  go_wp2_with (first|go_skip|((with_reducible show wpList ..);first|(refine zB 40 (v.cs) rfl rfl rfl SS ?_;clear SS;intro X1 B1 SS;simp only[nn])|(refine rd rfl (Ad 3 isAgg3 rfl rfl ((Aa SS).hold 0 rfl) rfl) ?_)|(refine rd rfl (Mm rfl rfl rfl h2) ?_)))
  go_ret
  exact⟨rfl,(Aa SS).fr.below⟩
 ·by_cases h7:v.k=7
  ·rw[if_pos (Or.inr h7)]
   have SS:=Ab (Sy.nil w [])
   rw[Dg]
   go_enter func86,ntmps86
   go_wp2_with (first|go_skip|((with_reducible show wpList ..);first|(refine zB 40 (v.cs) rfl rfl rfl SS ?_;clear SS;intro X1 B1 SS;simp only[nn])|(refine rd rfl (Ad 3 isAgg3 rfl rfl ((Aa SS).hold 0 rfl) rfl) ?_)|(refine rd rfl (Mn rfl rfl rfl h2) ?_)|(refine rd rfl (Mm rfl rfl rfl h7) ?_)))
   go_ret
   exact⟨rfl,(Aa SS).fr.below⟩
  ·rw[if_neg (by simp[h2,h7])]
   have SS:=Ab (Sy.nil w [])
   rw[Dg]
   go_enter func86,ntmps86
   go_wp2_with (first|go_skip|((with_reducible show wpList ..);first|(refine zB 40 (v.cs) rfl rfl rfl SS ?_;clear SS;intro X1 B1 SS;simp only[nn])|(refine rd rfl (Ad 3 isAgg3 rfl rfl ((Aa SS).hold 0 rfl) rfl) ?_)|(refine rd rfl (Mn rfl rfl rfl h2) ?_)|(refine rd rfl (Mn rfl rfl rfl h7) ?_)))
   go_ret
   exact⟨rfl,(Aa SS).fr.below⟩
end
section
open Go Go.Proofs Go.Maps Go.RowKit FM
attribute [local go_sem] Al Ak Ar Ah Am Ai Au Dd Db Bi Aj Bh
theorem Ef {l:List Int} (h:orE l=0): ∀e∈l,e=0:=by
 induction l with
 |nil=>intro e he;cases he
 |cons a l ih=>
  unfold orE at h
  split at h
  ·rename_i h0
   intro e he
   rcases List.mem_cons.1 he with rfl|he
   ·exact h0
   ·exact ih h e he
  ·rename_i h0
   exact absurd h h0
theorem Kf {o:Int} {h:HP} (he:thE o h.l.length=0): ∃(j:Nat) (q:OB),o=(j:Int)+1/\h.l[j]? =some q:=by
 unfold thE at he
 split at he
 ·rename_i h1
  exact Mk h1
 ·cases he
theorem Ua {n:Nat} {l:List VV} (h:Ay n l=0): ∀v∈l,v.k=7->1<=v.i/\v.i<=(n:Int):=by
 unfold Ay at h
 split at h
 ·rename_i h1
  intro v hv hk
  have:=List.all_eq_true.1 h1 v hv
  unfold Mi Ri at this
  simp[hk] at this
  exact this
 ·cases h
theorem Rw {l:List VV} (h:Bm l=0): ∀v∈l,v.good=true:=by
 unfold Bm at h
 split at h
 ·rename_i h1
  exact fun v hv=>List.all_eq_true.1 h1 v hv
 ·cases h
theorem Ra {k:KK} (h:Da k=0):goodK k=true:=by
 unfold Da at h
 split at h
 ·assumption
 ·cases h
theorem Zd9 {v:VV} (h:Df v=0):v.k=2∨v.k=7:=by
 unfold Df at h
 split at h
 ·assumption
 ·cases h
