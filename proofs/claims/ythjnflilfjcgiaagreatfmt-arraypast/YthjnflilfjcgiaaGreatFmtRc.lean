import Derived.Test.YthjnflilfjcgiaaGreatFmtRa
import Derived.Test.YthjnflilfjcgiaaGreatFmtRb
set_option linter.all false
namespace Go.Proofs.YthjnflilfjcgiaaGreatFmt
set_option maxRecDepth 100000
set_option maxHeartbeats 0
section
open Go Go.Proofs Go.Maps Go.RowKit FM Tryz
attribute [local go_sem] Ad Ag Ak Df Bi Ae Bg
def Da (k:KK):Int:=if goodK k then 0 else 5
theorem ZbN (k:KK) (w:World) (hT:Lib.Utf8Tabs 4 5 w):Calls prog 36 #[k.agg] w fun e w'=>e= .returned (.int .i64 (Da k))/\Below w.heap.size w w':=Ud k.s k.n w hT
theorem Jl {w:World} {B:Nat} {l:List VV} (h:Holds w B (l.flatMap VV.cs)):Qw w (some ⟨B,0,none⟩) l:=fun j v hj=>by
 have hlt:=(List.getElem?_eq_some_iff.1 hj).1
 have hv:=(List.getElem?_eq_some_iff.1 hj).2
 have hlen:(l.flatMap VV.cs).length=l.length * 5:=Za9 VV.cs 5 (fun _=>rfl) l
 refine⟨B,0,rfl,h.lt (by omega),fun t u hu=> ?_⟩
 have ht:t<5:=by have:=(List.getElem?_eq_some_iff.1 hu).1;simpa [VV.cs] using this
 have h2:=Vf VV.cs 5 (fun _=>rfl) l j t hlt ht
 rw[hv,hu] at h2
 have:=h.cell (j * 5+t) h2
 rw[Nat.zero_add]
 exact this
section
variable {md : Region.Mode} {ops : Array Oper} {Q : Exit → Act → World → Prop} {S : World → Prop} {w w0 : World} {fuel : Nat} {listed : Array Bool} {a : Act} {o : Oper} {E : List Nat} {L : List Ob}
theorem Bl {cs:List Value} {t n:Nat} (i:Nat) (dst:Option Tmp) {rs:List Nat} (hi:ops[i]? =some o) (hd:o.dst=dst) (hw:Region.wanted o (yielded ops a.tmps)=true) (he:(execOp a.eval o).run prog w= .ok (.value (.slice (some ⟨w.heap.size,0,none⟩) n n)) (w.alloc (Obj.cells cs.toArray t))) (hc:0<cs.length) (hL:Sy w0 w E L)
  (hS: ∀X,Sy w0 X E (L++ [Am w.heap.size cs])->S X) (h: ∀X B,B=w.heap.size->Sy w0 X E (L++ [Am B cs])->wpAnyH prog md ops Q S fuel (listed.setIfInBounds i true) (a.put dst (.slice (some ⟨B,0,none⟩) n n)) X) (hs:AllReadyH prog md ops Q S fuel listed a w rs):AllReadyH prog md ops Q S fuel listed a w (i::rs):=by
 have hb:=hL.box cs t hc
 exact ZbQ i dst hi hd hw he (hS _ hb) (h _ _ rfl hb) hs
end
theorem ex_bsV1 {o:Oper} {a:Act} {w:World} {x0:Operand} {v0:VV} (ho:o.op= .buildSlice 22 1 #[(0,x0)]) (h0:a.eval x0= .agg v0.cs.toArray):(execOp a.eval o).run prog w= .ok (.value (.slice (some ⟨w.heap.size,0,none⟩) 1 1)) (w.alloc (Obj.cells ([v0].flatMap VV.cs).toArray 35)):=by
 have e:(Instr.buildSlice 22 1 #[(0, .agg v0.cs.toArray)]).run prog w= .ok (.slice (some ⟨w.heap.size,0,none⟩) 1 1) (w.alloc (Obj.cells ([v0].flatMap VV.cs).toArray 35)):=by kernel_rfl
 unfold execOp
 simp only[ho,List.map_toArray,List.map_cons,List.map_nil,h0]
 simp[e]
theorem Bq {o:Oper} {a:Act} {w:World} {x0 x1:Operand} {v0 v1:VV} (ho:o.op= .buildSlice 22 2 #[(0,x0),(1,x1)]) (h0:a.eval x0= .agg v0.cs.toArray) (h1:a.eval x1= .agg v1.cs.toArray):(execOp a.eval o).run prog w= .ok (.value (.slice (some ⟨w.heap.size,0,none⟩) 2 2)) (w.alloc (Obj.cells ([v0,v1].flatMap VV.cs).toArray 35)):=by
 have e:(Instr.buildSlice 22 2 #[(0, .agg v0.cs.toArray),(1, .agg v1.cs.toArray)]).run prog w= .ok (.slice (some ⟨w.heap.size,0,none⟩) 2 2) (w.alloc (Obj.cells ([v0,v1].flatMap VV.cs).toArray 35)):=by kernel_rfl
 unfold execOp
 simp only[ho,List.map_toArray,List.map_cons,List.map_nil,h0,h1]
 simp[e]
theorem Do {o:Oper} {a:Act} {w:World} {x0 x1 x2:Operand} {v0 v1 v2:VV} (ho:o.op= .buildSlice 22 3 #[(0,x0),(1,x1),(2,x2)]) (h0:a.eval x0= .agg v0.cs.toArray) (h1:a.eval x1= .agg v1.cs.toArray) (h2:a.eval x2= .agg v2.cs.toArray):(execOp a.eval o).run prog w= .ok (.value (.slice (some ⟨w.heap.size,0,none⟩) 3 3)) (w.alloc (Obj.cells ([v0,v1,v2].flatMap VV.cs).toArray 35)):=by
 have e:(Instr.buildSlice 22 3 #[(0, .agg v0.cs.toArray),(1, .agg v1.cs.toArray),(2, .agg v2.cs.toArray)]).run prog w= .ok (.slice (some ⟨w.heap.size,0,none⟩) 3 3) (w.alloc (Obj.cells ([v0,v1,v2].flatMap VV.cs).toArray 35)):=by kernel_rfl
 unfold execOp
 simp only[ho,List.map_toArray,List.map_cons,List.map_nil,h0,h1,h2]
 simp[e]
theorem ex_bsE2 {o:Oper} {a:Act} {w:World} {x0 x1:Operand} {e0 e1:Int} (ho:o.op= .buildSlice 110 2 #[(0,x0),(1,x1)]) (h0:a.eval x0= .int .i64 e0) (h1:a.eval x1= .int .i64 e1):(execOp a.eval o).run prog w= .ok (.value (.slice (some ⟨w.heap.size,0,none⟩) 2 2)) (w.alloc (Obj.cells (Ov [e0,e1]).toArray 25)):=by
 have e:(Instr.buildSlice 110 2 #[(0, .int .i64 e0),(1, .int .i64 e1)]).run prog w= .ok (.slice (some ⟨w.heap.size,0,none⟩) 2 2) (w.alloc (Obj.cells (Ov [e0,e1]).toArray 25)):=by kernel_rfl
 unfold execOp
 simp only[ho,List.map_toArray,List.map_cons,List.map_nil,h0,h1]
 simp[e]
theorem Uc {o:Oper} {a:Act} {w:World} {x0 x1 x2:Operand} {e0 e1 e2:Int} (ho:o.op= .buildSlice 110 3 #[(0,x0),(1,x1),(2,x2)]) (h0:a.eval x0= .int .i64 e0) (h1:a.eval x1= .int .i64 e1) (h2:a.eval x2= .int .i64 e2):(execOp a.eval o).run prog w= .ok (.value (.slice (some ⟨w.heap.size,0,none⟩) 3 3)) (w.alloc (Obj.cells (Ov [e0,e1,e2]).toArray 25)):=by
 have e:(Instr.buildSlice 110 3 #[(0, .int .i64 e0),(1, .int .i64 e1),(2, .int .i64 e2)]).run prog w= .ok (.slice (some ⟨w.heap.size,0,none⟩) 3 3) (w.alloc (Obj.cells (Ov [e0,e1,e2]).toArray 25)):=by kernel_rfl
 unfold execOp
 simp only[ho,List.map_toArray,List.map_cons,List.map_nil,h0,h1,h2]
 simp[e]
theorem Bt {o:Oper} {a:Act} {w:World} {x0 x1 x2 x3 x4:Operand} {e0 e1 e2 e3 e4:Int} (ho:o.op= .buildSlice 110 5 #[(0,x0),(1,x1),(2,x2),(3,x3),(4,x4)]) (h0:a.eval x0= .int .i64 e0) (h1:a.eval x1= .int .i64 e1) (h2:a.eval x2= .int .i64 e2) (h3:a.eval x3= .int .i64 e3) (h4:a.eval x4= .int .i64 e4):(execOp a.eval o).run prog w= .ok (.value (.slice (some ⟨w.heap.size,0,none⟩) 5 5)) (w.alloc (Obj.cells (Ov [e0,e1,e2,e3,e4]).toArray 25)):=by
 have e:(Instr.buildSlice 110 5 #[(0, .int .i64 e0),(1, .int .i64 e1),(2, .int .i64 e2),(3, .int .i64 e3),(4, .int .i64 e4)]).run prog w= .ok (.slice (some ⟨w.heap.size,0,none⟩) 5 5) (w.alloc (Obj.cells (Ov [e0,e1,e2,e3,e4]).toArray 25)):=by kernel_rfl
 unfold execOp
 simp only[ho,List.map_toArray,List.map_cons,List.map_nil,h0,h1,h2,h3,h4]
 simp[e]
def Gv (v:VV):Int:=if v.k=2∨v.k=7 then 0 else 5
theorem Oe (v:VV) (w:World):Calls prog 73 #[v.agg] w fun e w'=>e= .returned (.int .i64 (Gv v))/\Below w.heap.size w w':=by
 unfold Gv
 by_cases h2:v.k=2
 ·rw[if_pos (Or.inl h2)]
  have SS:=Ab (Sy.nil w [])
  rw[Kg]
  go_enter func73,ntmps73
  go_wp2_with (first|go_skip|((with_reducible show wpList ..);first|(refine zB 35 (v.cs) (by rfl) rfl rfl rfl SS ?_;clear SS;intro X1 B1 SS;simp only[nn])|(refine rd rfl (Ai 3 isAgg3 rfl rfl ((Aa SS).hold 0 rfl) rfl) ?_)|(refine rd rfl (ex_neY rfl rfl rfl h2) ?_)))
  go_ret
  exact⟨rfl,(Aa SS).fr.below⟩
 ·by_cases h7:v.k=7
  ·rw[if_pos (Or.inr h7)]
   have SS:=Ab (Sy.nil w [])
   rw[Kg]
   go_enter func73,ntmps73
   go_wp2_with (first|go_skip|((with_reducible show wpList ..);first|(refine zB 35 (v.cs) (by rfl) rfl rfl rfl SS ?_;clear SS;intro X1 B1 SS;simp only[nn])|(refine rd rfl (Ai 3 isAgg3 rfl rfl ((Aa SS).hold 0 rfl) rfl) ?_)|(refine rd rfl (Zab rfl rfl rfl h2) ?_)|(refine rd rfl (ex_neY rfl rfl rfl h7) ?_)))
   go_ret
   exact⟨rfl,(Aa SS).fr.below⟩
  ·rw[if_neg (by simp[h2,h7])]
   have SS:=Ab (Sy.nil w [])
   rw[Kg]
   go_enter func73,ntmps73
   go_wp2_with (first|go_skip|((with_reducible show wpList ..);first|(refine zB 35 (v.cs) (by rfl) rfl rfl rfl SS ?_;clear SS;intro X1 B1 SS;simp only[nn])|(refine rd rfl (Ai 3 isAgg3 rfl rfl ((Aa SS).hold 0 rfl) rfl) ?_)|(refine rd rfl (Zab rfl rfl rfl h2) ?_)|(refine rd rfl (Zab rfl rfl rfl h7) ?_)))
   go_ret
   exact⟨rfl,(Aa SS).fr.below⟩
end
section
open Go Go.Proofs Go.Maps Go.RowKit FM
attribute [local go_sem] Ad Ag Ak Df Bi Ae Bg
def PostN (R:Act->World->Prop) (e:Exit) (a:Act) (X:World):Prop:=match e with| .normal=>R a X|_=>False
theorem pN {R:Act->World->Prop} {a:Act} {X:World} (h:R a X):PostN R .normal a X:=h
theorem Mx {P:Program} {id:Nat} {ops:Array Oper} {Q:Exit->Act->World->Prop} {a:Act} {w:World} (R:Act->Act->World->Prop) (h1:(Code.region id ops true).wp P (PostN (R a)) a w) (h2: ∀a' X,R a a' X->Q .normal a' X):(Code.region id ops true).wp P Q a w:=Code.wp_mono (fun e a' X h=>by cases e<;>first|exact h2 a' X h|exact h.elim) h1
theorem Pm {l:List Int} (h:orE l=0): ∀e∈l,e=0:=by
 induction l with
 |nil=>intro e he;cases he
 |cons a l ih=>
  unfold orE at h
  split at h
  ·rename_i h0
   intro e he
   rcases List.mem_cons.1 he with rfl|he
   ·exact h0
   ·exact ih h e he
  ·rename_i h0
   exact absurd h h0
theorem Yw {o:Int} {h:HP} (he:thE o h.l.length=0): ∃(j:Nat) (q:OB),o=(j:Int)+1/\h.l[j]? =some q:=by
 unfold thE at he
 split at he
 ·rename_i h1
  exact Za4 h1
 ·cases he
