import Derived.Test.YthjnflilfjcgiaaGreatFmtRo
import Derived.Test.YthjnflilfjcgiaaGreatFmtRp
set_option linter.all false
namespace Go.Proofs.YthjnflilfjcgiaaGreatFmt
set_option maxRecDepth 100000
set_option maxHeartbeats 0
section
open Go Go.Proofs Go.Maps Go.RowKit FM Tryz
attribute [local go_sem] mm_DefineOwnProperty mm_GetOwnProperty mm_HasProperty mm_Get mm_Delete mm_OwnPropertyKeys ta_caller
theorem ex_bhp {o:Oper} {a:Act} {w:World} {x1 x2 x3:Operand} (c f d:Int) (ho:o.op= .build 76 #[(1,x1),(2,x2),(3,x3)]) (h1:a.eval x1= .int .i64 c) (h2:a.eval x2= .int .i64 f) (h3:a.eval x3= .int .i64 d):(execOp a.eval o).run prog w= .ok (.value (.agg (hcs ⟨0, .slice none 0 0, [],c,f,d,0⟩).toArray)) w:=by
 have e:(Instr.build 76 #[(1, .int .i64 c),(2, .int .i64 f),(3, .int .i64 d)]).run prog w= .ok (.agg (hcs ⟨0, .slice none 0 0, [],c,f,d,0⟩).toArray) w:=by kernel_rfl
 unfold execOp
 simp only[ho,List.map_toArray,List.map_cons,List.map_nil,h1,h2,h3]
 simp[e]
def newBad (c f d:Int):Bool:=decide (c<0)||(decide (65536<c)||(decide (f<0)||(decide (d<1)||decide (256<d))))
def newHP (b:Nat) (c f d:Int):HP:=⟨b, .slice none 0 0, [],c,f,d,0⟩
theorem new_is {w X:World} {B:Nat} {c f d:Int} (S:Sy w X [] [boxO B (hcs ⟨0, .slice none 0 0, [],c,f,d,0⟩)]) (h6:6<=w.heap.size):(newHP B c f d).Is X:=by
 have hB:=S.hold 0 rfl
 have hlo:w.heap.size<=B:=(S.lo _ (List.mem_cons_self ..) B (List.mem_singleton.2 rfl)).elim (fun h=>by cases h) id
 refine⟨fun o ho=> ?_, ?_,fun b hb=> ?_⟩
 ·rcases List.mem_cons.1 ho with rfl|ho
  ·exact⟨hB,by simp[hcs]⟩
  rcases List.mem_cons.1 ho with rfl|ho
  ·exact⟨rfl, .inl ⟨rfl,rfl⟩⟩
  ·cases ho
 ·simp[HP.things,newHP,rowO,Value.ownBlock]
 ·have:b=B:=by simpa [HP.blocks,HP.things,newHP,rowO,boxO,Value.ownBlock] using hb
  omega
theorem new_blocks (B:Nat) (c f d:Int):(newHP B c f d).blocks= [B]:=by simp[HP.blocks,HP.things,newHP,rowO,boxO,Value.ownBlock]
def NewP (c f d:Int) (w:World) (e:Ending) (w':World):Prop:=(newBad c f d=true/\e= .returned (.tuple #[.pointer none, .int .i64 7])/\Below w.heap.size w w')∨(newBad c f d=false/\ ∃B,e= .returned (.tuple #[.pointer (some ⟨B,0,none⟩), .int .i64 0])/\(newHP B c f d).Is w'/\w.heap.size<=B/\Below w.heap.size w w')
theorem new_h (c f d:Int) (w:World) (h6:6<=w.heap.size):Calls prog 6 #[.int .i64 c, .int .i64 f, .int .i64 d] w (NewP c f d w):=by
 have SS:=hide (Sy.nil w [])
 by_cases h1:c<0
 ·have d1:decide (c<0)=true:=decide_eq_true h1
  go_enter func6,ntmps6
  go_wp2
  go_ret2
  exact .inl ⟨by unfold newBad;simp[*],rfl,(uh SS).fr.below⟩
 ·have d1:decide (c<0)=false:=decide_eq_false h1
  by_cases h2:65536<c
  ·have d2:decide (65536<c)=true:=decide_eq_true h2
   go_enter func6,ntmps6
   go_wp2
   go_ret2
   exact .inl ⟨by unfold newBad;simp[*],rfl,(uh SS).fr.below⟩
  ·have d2:decide (65536<c)=false:=decide_eq_false h2
   by_cases h3:f<0
   ·have d3:decide (f<0)=true:=decide_eq_true h3
    go_enter func6,ntmps6
    go_wp2
    go_ret2
    exact .inl ⟨by unfold newBad;simp[*],rfl,(uh SS).fr.below⟩
   ·have d3:decide (f<0)=false:=decide_eq_false h3
    by_cases h4:d<1
    ·have d4:decide (d<1)=true:=decide_eq_true h4
     go_enter func6,ntmps6
     go_wp2
     go_ret2
     exact .inl ⟨by unfold newBad;simp[*],rfl,(uh SS).fr.below⟩
    ·have d4:decide (d<1)=false:=decide_eq_false h4
     by_cases h5:256<d
     ·have d5:decide (256<d)=true:=decide_eq_true h5
      go_enter func6,ntmps6
      go_wp2
      go_ret2
      exact .inl ⟨by unfold newBad;simp[*],rfl,(uh SS).fr.below⟩
     ·have d5:decide (256<d)=false:=decide_eq_false h5
      go_enter func6,ntmps6
      go_wp2_with (first|go_skip|((with_reducible show wpList ..);first|(refine rd rfl (ex_bhp c f d rfl rfl rfl rfl) ?_;simp only[nn])|(refine zB 76 (hcs ⟨0, .slice none 0 0, [],c,f,d,0⟩) (by rfl) rfl rfl rfl SS ?_;clear SS;intro Xa Ba SS;simp only[nn])))
      go_ret2
      exact .inr ⟨by unfold newBad;simp[*],Ba,rfl,new_is (uh SS) h6,((uh SS).lo _ (List.mem_cons_self ..) Ba (List.mem_singleton.2 rfl)).elim (fun h=>by cases h) id,(uh SS).fr.below⟩
def lenS:ByteArray:=⟨#[108,101,110,103,116,104]⟩
def lenK:KK:=⟨lenS,0⟩
def numV (x:Nat):VV:=⟨4,false,x,ByteArray.empty,0⟩
theorem ex_lk {o:Oper} {a:Act} {w:World} {x:Operand} (ho:o.op= .build 42 #[(0,x)]) (hx:a.eval x= .string lenS):(execOp a.eval o).run prog w= .ok (.value (.agg lenK.cs.toArray)) w:=by
 have e:(Instr.build 42 #[(0, .string lenS)]).run prog w= .ok (.agg lenK.cs.toArray) w:=by kernel_rfl
 unfold execOp
 simp only[ho,List.map_toArray,List.map_cons,List.map_nil,hx]
 simp[e]
theorem cellsM:prog.cellsOf 83=0:=by kernel_rfl
theorem byteOf0 {w:World} {B:Nat} (h:w.heap[B]? =some (Obj.cells #[] 83)):(byteOf ⟨B,0,none⟩).run prog w= .ok 0 w:=by
 have hs:w.shape? B=some (83,0):=by simp[World.shape?,h]
 have hv:(viewAt B).run prog w= .ok none w:=by simp[viewAt,go_sem,hs]
 unfold byteOf
 simp[go_sem,noView,cellsM,hs,hv]
def empO (B:Nat):Ob:=⟨[B],fun X=>X.heap[B]? =some (Obj.cells #[] 83)⟩
theorem empO_ok (B:Nat):(empO B).Ok:=⟨fun h k=>(h B (List.mem_singleton.2 rfl)).trans k,fun h b hb=>by
 obtain rfl:=List.mem_singleton.1 hb
 exact(Array.getElem?_eq_some_iff.1 h).1⟩
theorem Sy.emp {w X:World} {E:List Nat} {L:List Ob} (h:Sy w X E L) (i:Nat) {B:Nat} (hi:L[i]? =some (empO B)):X.heap[B]? =some (Obj.cells #[] 83):=h.get i hi
theorem faM {o:Oper} {a:Act} {w:World} {x:Operand} {B:Nat} (ho:o.op= .fieldAddr 83 x 0) (hx:a.eval x= .pointer (some ⟨B,0,none⟩)) (h:w.heap[B]? =some (Obj.cells #[] 83)):(execOp a.eval o).run prog w= .ok (.value (.pointer (some ⟨B,0,none⟩))) w:=by
 unfold execOp
 simp only[ho,hx]
 simp[go_sem,partAt,byteOf0 h]
theorem ldO {o:Oper} {a:Act} {w:World} {x:Operand} {B:Nat} (ho:o.op= .load 81 x) (hx:a.eval x= .pointer (some ⟨B,0,none⟩)):(execOp a.eval o).run prog w= .ok (.value (.agg #[])) w:=by
 unfold execOp
 simp only[ho,hx]
 simp[go_sem]
theorem ldM {o:Oper} {a:Act} {w:World} {x:Operand} {B:Nat} (ho:o.op= .load 83 x) (hx:a.eval x= .pointer (some ⟨B,0,none⟩)):(execOp a.eval o).run prog w= .ok (.value (.agg #[])) w:=by
 unfold execOp
 simp only[ho,hx]
 simp[go_sem]
theorem bxE {ops:Array Oper} {rest:List Oper} {Q:Exit->Act->World->Prop} {w w0:World} {a:Act} {o:Oper} {E:List Nat} {L:List Ob} {x:Operand} (hw:Region.wanted o (yielded ops a.tmps)=true) (ho:o.op= .box 83 x) (hx:a.eval x= .agg #[]) (hL:Sy w0 w E L)
  (h: ∀X B,Sy w0 X E (L++ [empO B])->wpList prog ops Q rest (a.put o.dst (.pointer (some ⟨B,0,none⟩))) X):wpList prog ops Q (o::rest) a w:=by
 refine BigFrame.wpList_want hw fun K hK=> ?_
 have hP:=hK _ _ (h _ w.heap.size (hL.add (empO_ok _) (show (w.alloc (Obj.cells #[] 83)).heap[w.heap.size]? =_ from Array.getElem?_push_size) ((Below.refl _ _).alloc (Nat.le_refl _) _) (fun b hb=>by rw[List.mem_singleton.1 hb];exact Nat.le_refl _)))
 have e2:(Instr.box 83 (.agg #[])).run prog w= .ok (.pointer (some ⟨w.heap.size,0,none⟩)) (w.alloc (Obj.cells #[] 83)):=rfl
 unfold Oper.wp execOp
 simp only[ho,hx]
 simp[e2]
 exact hP
theorem lkey_any (w:World):Calls prog 57 #[] w fun e w'=>e= .returned (lenK.agg)/\Below w.heap.size w w':=by
 have SS:=hide (Sy.nil w [])
 go_enter func57,ntmps57
 go_wp2_with (first|go_skip|((with_reducible show wpList ..);first|(refine zA 42 (zeroK.cs) (by rfl) rfl SS ?_;clear SS;intro Xa Ba SS;simp only[nn])|(refine rd rfl (ex_lk rfl rfl) ?_;simp only[nn])|(refine zS (lenK.cs) 0 42 (by rfl) rfl rfl rfl rfl (oneK _) szK SS rfl ?_;clear SS;intro Xz SS;simp only[nn])))
 refine ret_c rwK szK rfl rfl rfl ((uh SS).hold 0 rfl) rfl ?_
 exact⟨rfl,(uh SS).fr.below⟩
theorem num_any (x:Nat) (w:World):Calls prog 17 #[.float .f64 x] w fun e w'=>e= .returned ((numV x).agg)/\Below w.heap.size w w':=by
 have SS:=hide (Sy.nil w [])
 go_enter func17,ntmps17
 go_wp2_with (first|go_skip|((with_reducible show wpList ..);first|(refine zA 35 (zeroV.cs) (by rfl) rfl SS ?_;clear SS;intro Xa Ba SS;simp only[nn])))
 refine(outside4 x _).mono ?_
 rintro _ Y1 ⟨rfl,hb1⟩
 replace SS:=hide ((uh SS).on hb1)
 clear hb1
 rw[vagg]
 go_wp2_with (first|go_skip|((with_reducible show wpList ..);first|(refine zS ((numV x).cs) 0 35 (by rfl) rfl rfl rfl rfl (oneV _) szV SS rfl ?_;clear SS;intro Xz SS;simp only[nn])))
 refine ret_c rwV szV rfl rfl rfl ((uh SS).hold 0 rfl) rfl ?_
 exact⟨rfl,(uh SS).fr.below⟩
def belE (n:Int):Int:=if n<0 then 7 else 0
theorem below_any (n:Int) (w:World):Calls prog 53 #[.int .i64 n] w fun e w'=>e= .returned (.int .i64 (belE n))/\w'=w:=by
 unfold belE
 by_cases h:n<0
 ·rw[if_pos h]
  have d1:decide (n<0)=true:=decide_eq_true h
  go_enter func53,ntmps53
  go_wp2
  go_ret
  exact⟨rfl,rfl⟩
 ·rw[if_neg h]
  have d1:decide (n<0)=false:=decide_eq_false h
  go_enter func53,ntmps53
  go_wp2
  go_ret
  exact⟨rfl,rfl⟩
theorem aproto_null (w:World):Calls prog 29 #[VV.agg ⟨2,false,0,ByteArray.empty,0⟩] w fun e w'=>e= .returned (.int .i64 0)/\Below w.heap.size w w':=by
 have SS:=hide (Sy.nil w [])
 rw[vagg]
 go_enter func29,ntmps29
 go_wp2_with (first|go_skip|((with_reducible show wpList ..);first|(refine zB 35 (VV.cs ⟨2,false,0,ByteArray.empty,0⟩) (by rfl) rfl rfl rfl SS ?_;clear SS;intro Xa Ba SS;simp only[nn])|(refine rd rfl (ex_load1 3 isAgg3 rfl rfl ((uh SS).hold 0 rfl) rfl) ?_;simp only[nn])))
 go_ret
 exact⟨rfl,(uh SS).fr.below⟩
theorem class_h (h:HP) (j:Nat) (q:OB) (w:World) (H:h.Is w) (hl:h.l.length<=65536) (hj:h.l[j]? =some q):Calls prog 67 #[.pointer (some ⟨h.b,0,none⟩), .int .i64 ((j:Int)+1)] w fun e w'=>e= .returned (.tuple #[.int .i64 q.c, .int .i64 0])/\w'=w:=by
 have HA:=there_h h ((j:Int)+1) w H
 rw[show thE ((j:Int)+1) h.l.length=0 by unfold thE;rw[some_has hj];rfl] at HA
 have HB:=at_h h j q w H hj hl
 have HO:=hide (H.ob hj).1
 clear H
 go_enter func67,ntmps67
 go_wp2_with fail
 refine HA.mono ?_
 rintro _ _ ⟨rfl,rfl⟩
 go_wp2_with fail
 refine HB.mono ?_
 rintro _ _ ⟨rfl,rfl⟩
 go_wp2_with (first|go_skip|((with_reducible show wpList ..);first|(refine rd rfl (ex_load1 3 isAgg3 rfl rfl (uh HO) rfl) ?_;simp only[nn])))
 go_ret2
 exact⟨rfl,rfl⟩
theorem isarr_h (h:HP) (j:Nat) (q:OB) (w:World) (H:h.Is w) (hl:h.l.length<=65536) (hj:h.l[j]? =some q) (hq:q.c=3):Calls prog 46 #[.pointer (some ⟨h.b,0,none⟩), .int .i64 ((j:Int)+1)] w fun e w'=>e= .returned (.int .i64 0)/\w'=w:=by
 have HA:=class_h h j q w H hl hj
 rw[hq] at HA
 clear H
 go_enter func46,ntmps46
 go_wp2_with fail
 refine HA.mono ?_
 rintro _ _ ⟨rfl,rfl⟩
 go_wp2
 go_ret
 exact⟨rfl,rfl⟩
theorem lay_h (h:HP) (j:Nat) (q:OB) (k:KK) (d:DD) (w:World) (H:h.Is w) (hl:h.l.length<=65536) (hj:h.l[j]? =some q) (hT:Tabs w) (hk:OkK k) (hg:goodK k=true) (hFn:FD (getD q.T k)) (hFd:FD d) (hlast:q.T.last<4000000):Calls prog 32 #[.agg #[], .pointer (some ⟨h.b,0,none⟩), .int .i64 ((j:Int)+1),k.agg,d.agg] w fun e w'=> ∃(h1:HP) (y:Bool),e= .returned (.tuple #[])/\DefP h j q k d h1 y/\h.To h1 w w':=by
 have SS:=hide H.start
 rw[kagg,dagg]
 go_enter func32,ntmps32
 go_wp2_with (first|go_skip|((with_reducible show wpList ..);first|((refine bxE (by rfl) rfl rfl (uh SS) ?_);intro X0 B0 S0;replace SS:=hide S0;clear S0;simp only[nn])|(refine zB 42 (k.cs) (by rfl) rfl rfl rfl SS ?_;clear SS;intro Xa Ba SS;simp only[nn])|(refine zB 53 (d.cs) (by rfl) rfl rfl rfl SS ?_;clear SS;intro Xb Bb SS;simp only[nn])|(refine zL (k.cs) 42 2 2 rwK szK (by rfl) rfl rfl SS rfl rfl rfl ?_;simp only[nn])|(refine zL (d.cs) 53 18 3 rwD szD (by rfl) rfl rfl SS rfl rfl rfl ?_;simp only[nn])|(refine rd rfl (faM rfl rfl ((uh SS).emp 1 rfl)) ?_;simp only[nn])|(refine rd rfl (ldO rfl rfl) ?_;simp only[nn])|(refine rd rfl (ldM rfl rfl) ?_;simp only[nn])))
 have T0:h.To h w _:=HP.To.end H (uh SS) rfl
 have HD:=ord_define h j q k d _ ((uh SS).hp 0 rfl) hl hj (T0.tabs H hT) hk hg hFn hFd hlast
 rw[kagg,dagg] at HD
 refine HD.mono ?_
 rintro _ Y1 ⟨h1,y,rfl,hP,T1⟩
 replace SS:=hide ((uh SS).heap 0 rfl T1)
 have HP_:=hide hP
 clear hP
 have hb1:h1.b=h.b:=T1.hb
 clear T1
 go_wp2
 refine bodyPost_end (results_none rfl _ _ _) rfl ?_
 exact⟨h1,y,rfl,uh HP_,HP.To.end H (uh SS) hb1⟩
