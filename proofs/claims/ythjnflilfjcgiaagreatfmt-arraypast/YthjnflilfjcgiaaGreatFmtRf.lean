import Derived.Test.YthjnflilfjcgiaaGreatFmtRd
import Derived.Test.YthjnflilfjcgiaaGreatFmtRe
set_option linter.all false
namespace Go.Proofs.YthjnflilfjcgiaaGreatFmt
set_option maxRecDepth 100000
set_option maxHeartbeats 0
section
open Go Go.Proofs Go.Maps Go.RowKit FM Tryz
attribute [local go_sem] Ad Ag Ak Df Bi Ae Bg
theorem ex_bhp {o:Oper} {a:Act} {w:World} {x1 x2 x3:Operand} (c f d:Int) (ho:o.op= .build 76 #[(1,x1),(2,x2),(3,x3)]) (h1:a.eval x1= .int .i64 c) (h2:a.eval x2= .int .i64 f) (h3:a.eval x3= .int .i64 d):(execOp a.eval o).run prog w= .ok (.value (.agg (hcs ⟨0, .slice none 0 0, [],c,f,d,0⟩).toArray)) w:=by
 have e:(Instr.build 76 #[(1, .int .i64 c),(2, .int .i64 f),(3, .int .i64 d)]).run prog w= .ok (.agg (hcs ⟨0, .slice none 0 0, [],c,f,d,0⟩).toArray) w:=by kernel_rfl
 unfold execOp
 simp only[ho,List.map_toArray,List.map_cons,List.map_nil,h1,h2,h3]
 simp[e]
def Mi (c f d:Int):Bool:=decide (c<0)||(decide (65536<c)||(decide (f<0)||(decide (d<1)||decide (256<d))))
def Bj (b:Nat) (c f d:Int):HP:=⟨b, .slice none 0 0, [],c,f,d,0⟩
theorem new_is {w X:World} {B:Nat} {c f d:Int} (S:Sy w X [] [Am B (hcs ⟨0, .slice none 0 0, [],c,f,d,0⟩)]) (h6:6<=w.heap.size):(Bj B c f d).Is X:=by
 have hB:=S.hold 0 rfl
 have hlo:w.heap.size<=B:=(S.lo _ (List.mem_cons_self ..) B (List.mem_singleton.2 rfl)).elim (fun h=>by cases h) id
 refine⟨fun o ho=> ?_, ?_,fun b hb=> ?_⟩
 ·rcases List.mem_cons.1 ho with rfl|ho
  ·exact⟨hB,by simp[hcs]⟩
  rcases List.mem_cons.1 ho with rfl|ho
  ·exact⟨rfl, .inl ⟨rfl,rfl⟩⟩
  ·cases ho
 ·simp[HP.things,Bj,Ls,Value.ownBlock]
 ·have:b=B:=by simpa [HP.blocks,HP.things,Bj,Ls,Am,Value.ownBlock] using hb
  omega
theorem Up (B:Nat) (c f d:Int):(Bj B c f d).blocks= [B]:=by simp[HP.blocks,HP.things,Bj,Ls,Am,Value.ownBlock]
def NewP (c f d:Int) (w:World) (e:Ending) (w':World):Prop:=(Mi c f d=true/\e= .returned (.tuple #[.pointer none, .int .i64 7])/\Below w.heap.size w w')∨(Mi c f d=false/\ ∃B,e= .returned (.tuple #[.pointer (some ⟨B,0,none⟩), .int .i64 0])/\(Bj B c f d).Is w'/\w.heap.size<=B/\Below w.heap.size w w')
theorem new_h (c f d:Int) (w:World) (h6:6<=w.heap.size):Calls prog 6 #[.int .i64 c, .int .i64 f, .int .i64 d] w (NewP c f d w):=by
 have SS:=Ab (Sy.nil w [])
 by_cases h1:c<0
 ·have d1:decide (c<0)=true:=decide_eq_true h1
  go_enter func6,ntmps6
  go_wp2
  go_ret2
  exact .inl ⟨by unfold Mi;simp[*],rfl,(Aa SS).fr.below⟩
 ·have d1:decide (c<0)=false:=decide_eq_false h1
  by_cases h2:65536<c
  ·have d2:decide (65536<c)=true:=decide_eq_true h2
   go_enter func6,ntmps6
   go_wp2
   go_ret2
   exact .inl ⟨by unfold Mi;simp[*],rfl,(Aa SS).fr.below⟩
  ·have d2:decide (65536<c)=false:=decide_eq_false h2
   by_cases h3:f<0
   ·have d3:decide (f<0)=true:=decide_eq_true h3
    go_enter func6,ntmps6
    go_wp2
    go_ret2
    exact .inl ⟨by unfold Mi;simp[*],rfl,(Aa SS).fr.below⟩
   ·have d3:decide (f<0)=false:=decide_eq_false h3
    by_cases h4:d<1
    ·have d4:decide (d<1)=true:=decide_eq_true h4
     go_enter func6,ntmps6
     go_wp2
     go_ret2
     exact .inl ⟨by unfold Mi;simp[*],rfl,(Aa SS).fr.below⟩
    ·have d4:decide (d<1)=false:=decide_eq_false h4
     by_cases h5:256<d
     ·have d5:decide (256<d)=true:=decide_eq_true h5
      go_enter func6,ntmps6
      go_wp2
      go_ret2
      exact .inl ⟨by unfold Mi;simp[*],rfl,(Aa SS).fr.below⟩
     ·have d5:decide (256<d)=false:=decide_eq_false h5
      go_enter func6,ntmps6
      go_wp2_with (first|go_skip|((with_reducible show wpList ..);first|(refine rd rfl (ex_bhp c f d rfl rfl rfl rfl) ?_)|(refine zB 76 (hcs ⟨0, .slice none 0 0, [],c,f,d,0⟩) (by rfl) rfl rfl rfl SS ?_;clear SS;intro Xa Ba SS;simp only[nn])))
      go_ret2
      exact .inr ⟨by unfold Mi;simp[*],Ba,rfl,new_is (Aa SS) h6,((Aa SS).lo _ (List.mem_cons_self ..) Ba (List.mem_singleton.2 rfl)).elim (fun h=>by cases h) id,(Aa SS).fr.below⟩
def lenS:ByteArray:=⟨#[108,101,110,103,116,104]⟩
def Bm:KK:=⟨lenS,0⟩
def Ee (x:Nat):VV:=⟨4,false,x,ByteArray.empty,0⟩
theorem ex_lk {o:Oper} {a:Act} {w:World} {x:Operand} (ho:o.op= .build 42 #[(0,x)]) (hx:a.eval x= .string lenS):(execOp a.eval o).run prog w= .ok (.value (.agg Bm.cs.toArray)) w:=by
 have e:(Instr.build 42 #[(0, .string lenS)]).run prog w= .ok (.agg Bm.cs.toArray) w:=by kernel_rfl
 unfold execOp
 simp only[ho,List.map_toArray,List.map_cons,List.map_nil,hx]
 simp[e]
theorem cellsM:prog.cellsOf 83=0:=by kernel_rfl
theorem byteOf0 {w:World} {B:Nat} (h:w.heap[B]? =some (Obj.cells #[] 83)):(byteOf ⟨B,0,none⟩).run prog w= .ok 0 w:=by
 have hs:w.shape? B=some (83,0):=by simp[World.shape?,h]
 have hv:(viewAt B).run prog w= .ok none w:=by simp[viewAt,go_sem,hs]
 unfold byteOf
 simp[go_sem,noView,cellsM,hs,hv]
def Ku (B:Nat):Ob:=⟨[B],fun X=>X.heap[B]? =some (Obj.cells #[] 83)⟩
theorem empO_ok (B:Nat):(Ku B).Ok:=⟨fun h k=>(h B (List.mem_singleton.2 rfl)).trans k,fun h b hb=>by
 obtain rfl:=List.mem_singleton.1 hb
 exact(Array.getElem?_eq_some_iff.1 h).1⟩
theorem Sy.emp {w X:World} {E:List Nat} {L:List Ob} (h:Sy w X E L) (i:Nat) {B:Nat} (hi:L[i]? =some (Ku B)):X.heap[B]? =some (Obj.cells #[] 83):=h.get i hi
theorem faM {o:Oper} {a:Act} {w:World} {x:Operand} {B:Nat} (ho:o.op= .fieldAddr 83 x 0) (hx:a.eval x= .pointer (some ⟨B,0,none⟩)) (h:w.heap[B]? =some (Obj.cells #[] 83)):(execOp a.eval o).run prog w= .ok (.value (.pointer (some ⟨B,0,none⟩))) w:=by
 unfold execOp
 simp only[ho,hx]
 simp[go_sem,partAt,byteOf0 h]
theorem ldO {o:Oper} {a:Act} {w:World} {x:Operand} {B:Nat} (ho:o.op= .load 81 x) (hx:a.eval x= .pointer (some ⟨B,0,none⟩)):(execOp a.eval o).run prog w= .ok (.value (.agg #[])) w:=by
 unfold execOp
 simp only[ho,hx]
 simp[go_sem]
theorem ldM {o:Oper} {a:Act} {w:World} {x:Operand} {B:Nat} (ho:o.op= .load 83 x) (hx:a.eval x= .pointer (some ⟨B,0,none⟩)):(execOp a.eval o).run prog w= .ok (.value (.agg #[])) w:=by
 unfold execOp
 simp only[ho,hx]
 simp[go_sem]
theorem bxE {ops:Array Oper} {rest:List Oper} {Q:Exit->Act->World->Prop} {w w0:World} {a:Act} {o:Oper} {E:List Nat} {L:List Ob} {x:Operand} (hw:Region.wanted o (yielded ops a.tmps)=true) (ho:o.op= .box 83 x) (hx:a.eval x= .agg #[]) (hL:Sy w0 w E L)
  (h: ∀X B,Sy w0 X E (L++ [Ku B])->wpList prog ops Q rest (a.put o.dst (.pointer (some ⟨B,0,none⟩))) X):wpList prog ops Q (o::rest) a w:=by
 refine BigFrame.wpList_want hw fun K hK=> ?_
 have hP:=hK _ _ (h _ w.heap.size (hL.add (empO_ok _) (show (w.alloc (Obj.cells #[] 83)).heap[w.heap.size]? =_ from Array.getElem?_push_size) ((Below.refl _ _).alloc (Nat.le_refl _) _) (fun b hb=>by rw[List.mem_singleton.1 hb];exact Nat.le_refl _)))
 have e2:(Instr.box 83 (.agg #[])).run prog w= .ok (.pointer (some ⟨w.heap.size,0,none⟩)) (w.alloc (Obj.cells #[] 83)):=rfl
 unfold Oper.wp execOp
 simp only[ho,hx]
 simp[e2]
 exact hP
theorem Gn (w:World):Calls prog 57 #[] w fun e w'=>e= .returned (Bm.agg)/\Below w.heap.size w w':=by
 have SS:=Ab (Sy.nil w [])
 go_enter func57,ntmps57
 go_wp2_with (first|go_skip|((with_reducible show wpList ..);first|(refine zA 42 (Ga.cs) (by rfl) rfl SS ?_;clear SS;intro Xa Ba SS;simp only[nn])|(refine rd rfl (ex_lk rfl rfl) ?_)|(refine zS (Bm.cs) 0 42 (by rfl) rfl rfl rfl rfl (oneK _) szK SS rfl ?_;clear SS;intro Xz SS;simp only[nn])))
 refine Ra rwK szK rfl rfl rfl ((Aa SS).hold 0 rfl) rfl ?_
 exact⟨rfl,(Aa SS).fr.below⟩
theorem Dy (x:Nat) (w:World):Calls prog 17 #[.float .f64 x] w fun e w'=>e= .returned ((Ee x).agg)/\Below w.heap.size w w':=by
 have SS:=Ab (Sy.nil w [])
 go_enter func17,ntmps17
 go_wp2_with (first|go_skip|((with_reducible show wpList ..);first|(refine zA 35 (Be.cs) (by rfl) rfl SS ?_;clear SS;intro Xa Ba SS;simp only[nn])))
 refine(outside4 x _).mono ?_
 rintro _ Y1 ⟨rfl,hb1⟩
 replace SS:=Ab ((Aa SS).on hb1)
 clear hb1
 rw[Kg]
 go_wp2_with (first|go_skip|((with_reducible show wpList ..);first|(refine zS ((Ee x).cs) 0 35 (by rfl) rfl rfl rfl rfl (Na _) szV SS rfl ?_;clear SS;intro Xz SS;simp only[nn])))
 refine Ra rwV szV rfl rfl rfl ((Aa SS).hold 0 rfl) rfl ?_
 exact⟨rfl,(Aa SS).fr.below⟩
def Zbo (n:Int):Int:=if n<0 then 7 else 0
theorem Zdl (n:Int) (w:World):Calls prog 53 #[.int .i64 n] w fun e w'=>e= .returned (.int .i64 (Zbo n))/\w'=w:=by
 unfold Zbo
 by_cases h:n<0
 ·rw[if_pos h]
  have d1:decide (n<0)=true:=decide_eq_true h
  go_enter func53,ntmps53
  go_wp2
  go_ret
  exact⟨rfl,rfl⟩
 ·rw[if_neg h]
  have d1:decide (n<0)=false:=decide_eq_false h
  go_enter func53,ntmps53
  go_wp2
  go_ret
  exact⟨rfl,rfl⟩
theorem Rd (w:World):Calls prog 29 #[VV.agg ⟨2,false,0,ByteArray.empty,0⟩] w fun e w'=>e= .returned (.int .i64 0)/\Below w.heap.size w w':=by
 have SS:=Ab (Sy.nil w [])
 rw[Kg]
 go_enter func29,ntmps29
 go_wp2_with (first|go_skip|((with_reducible show wpList ..);first|(refine zB 35 (VV.cs ⟨2,false,0,ByteArray.empty,0⟩) (by rfl) rfl rfl rfl SS ?_;clear SS;intro Xa Ba SS;simp only[nn])|(refine rd rfl (Ai 3 isAgg3 rfl rfl ((Aa SS).hold 0 rfl) rfl) ?_)))
 go_ret
 exact⟨rfl,(Aa SS).fr.below⟩
theorem class_h (h:HP) (j:Nat) (q:OB) (w:World) (H:h.Is w) (hl:h.l.length<=65536) (hj:h.l[j]? =some q):Calls prog 67 #[.pointer (some ⟨h.b,0,none⟩), .int .i64 ((j:Int)+1)] w fun e w'=>e= .returned (.tuple #[.int .i64 q.c, .int .i64 0])/\w'=w:=by
 have HA:=Pf h ((j:Int)+1) w H
 rw[show thE ((j:Int)+1) h.l.length=0 by unfold thE;rw[some_has hj];rfl] at HA
 have HB:=Qu h j q w H hj hl
 have HO:=Ab (H.ob hj).1
 clear H
 go_enter func67,ntmps67
 go_wp2_with fail
 refine HA.mono ?_
 rintro _ _ ⟨rfl,rfl⟩
 go_wp2_with fail
 refine HB.mono ?_
 rintro _ _ ⟨rfl,rfl⟩
 go_wp2_with (first|go_skip|((with_reducible show wpList ..);first|(refine rd rfl (Ai 3 isAgg3 rfl rfl (Aa HO) rfl) ?_)))
 go_ret2
 exact⟨rfl,rfl⟩
theorem isarr_h (h:HP) (j:Nat) (q:OB) (w:World) (H:h.Is w) (hl:h.l.length<=65536) (hj:h.l[j]? =some q) (hq:q.c=3):Calls prog 46 #[.pointer (some ⟨h.b,0,none⟩), .int .i64 ((j:Int)+1)] w fun e w'=>e= .returned (.int .i64 0)/\w'=w:=by
 have HA:=class_h h j q w H hl hj
 rw[hq] at HA
 clear H
 go_enter func46,ntmps46
 go_wp2_with fail
 refine HA.mono ?_
 rintro _ _ ⟨rfl,rfl⟩
 go_wp2
 go_ret
 exact⟨rfl,rfl⟩
theorem Zcl (h:HP) (j:Nat) (q:OB) (k:KK) (d:DD) (w:World) (H:h.Is w) (hl:h.l.length<=65536) (hj:h.l[j]? =some q) (hT:Tabs w) (hk:OkK k) (hg:goodK k=true) (hFn:FD (getD q.T k)) (hFd:FD d) (hlast:q.T.last<4000000):Calls prog 32 #[.agg #[], .pointer (some ⟨h.b,0,none⟩), .int .i64 ((j:Int)+1),k.agg,d.agg] w fun e w'=> ∃(h1:HP) (y:Bool),e= .returned (.tuple #[])/\Zap h j q k d h1 y/\h.To h1 w w':=by
 have SS:=Ab H.start
 rw[Le,Vp]
 go_enter func32,ntmps32
 go_wp2_with (first|go_skip|((with_reducible show wpList ..);first|((refine bxE (by rfl) rfl rfl (Aa SS) ?_);intro X0 B0 S0;replace SS:=Ab S0;clear S0;simp only[nn])|(refine zB 42 (k.cs) (by rfl) rfl rfl rfl SS ?_;clear SS;intro Xa Ba SS;simp only[nn])|(refine zB 53 (d.cs) (by rfl) rfl rfl rfl SS ?_;clear SS;intro Xb Bb SS;simp only[nn])|(refine zL (k.cs) 42 2 2 rwK szK (by rfl) rfl rfl SS rfl rfl rfl ?_;simp only[nn])|(refine zL (d.cs) 53 18 3 rwD szD (by rfl) rfl rfl SS rfl rfl rfl ?_;simp only[nn])|(refine rd rfl (faM rfl rfl ((Aa SS).emp 1 rfl)) ?_)|(refine rd rfl (ldO rfl rfl) ?_)|(refine rd rfl (ldM rfl rfl) ?_)))
 have T0:h.To h w _:=HP.To.end H (Aa SS) rfl
 have HD:=Kz h j q k d _ ((Aa SS).hp 0 rfl) hl hj (T0.tabs H hT) hk hg hFn hFd hlast
 rw[Le,Vp] at HD
 refine HD.mono ?_
 rintro _ Y1 ⟨h1,y,rfl,hP,T1⟩
 replace SS:=Ab ((Aa SS).heap 0 rfl T1)
 have HP_:=Ab hP
 clear hP
 have hb1:h1.b=h.b:=T1.hb
 clear T1
 go_wp2
 refine bodyPost_end (results_none rfl _ _ _) rfl ?_
 exact⟨h1,y,rfl,Aa HP_,HP.To.end H (Aa SS) hb1⟩
theorem Gp:goodK Bm=true:=by kernel_rfl
theorem Ks:OkK Bm:=Ua Gp
def Cv (x n:Nat):Prop:= ∀w,(convert 33 44 (.float .f64 x)).run prog w= .ok (.int .u32 (n:Nat)) w
theorem ex_cv {o:Oper} {a:Act} {w:World} {x:Operand} {b n:Nat} (hn:Cv b n) (ho:o.op= .convert 33 44 x) (hx:a.eval x= .float .f64 b):(execOp a.eval o).run prog w= .ok (.value (.int .u32 (n:Nat))) w:=by
 unfold execOp
 simp only[ho,hx]
 simp[hn w]
theorem Zam (h:HP) (j:Nat) (q:OB) (n:Nat) (w:World) (H:h.Is w) (hl:h.l.length<=65536) (hj:h.l[j]? =some q) (hn:Cv (getD q.T Bm).v.x n) (hw:(getD q.T Bm).w=2):Calls prog 47 #[.agg #[], .pointer (some ⟨h.b,0,none⟩), .int .i64 ((j:Int)+1)] w fun e w'=>e= .returned (.tuple #[.int .u32 (n:Nat), .bool true])/\Below w.heap.size w w':=by
 have SS:=Ab (Sy.nil w [])
 go_enter func47,ntmps47
 go_wp2_with (first|go_skip|((with_reducible show wpList ..);first|((refine bxE (by rfl) rfl rfl (Aa SS) ?_);intro X0 B0 S0;replace SS:=Ab S0;clear S0;simp only[nn])))
 have hS1:Sy w _ [] [Ku B0]:=(Aa SS).drew
 clear SS
 have cu: ∀{X:World} {M:List Ob},Sy w X [] ([Ku B0]++M)->Sy w X [] [Ku B0]:=fun h=>Sy.left h
 refine wp_region_held_drew (P:=prog) (S:=fun X=>Sy w X [] _) (by kernel_rfl) (hS1) (fun hS0=> ?_)
 refine gq 0 (some 12) (.pointer (some ⟨B0,0,none⟩)) rfl rfl (fun X hX=>faM rfl rfl (hX.emp 0 rfl)) (hS1) ?_
 refine gq 1 (some 13) (.agg #[]) rfl rfl (fun X hX=>ldO rfl rfl) (hS1) ?_
 refine gp 2 (some 14) (.pointer (some ⟨h.b,0,none⟩)) rfl rfl (hS1) ?_
 refine gp 3 (some 15) (.int .i64 ((j:Int)+1)) rfl rfl (hS1) ?_
 refine gr (rs:= [4,10]) (gcB 4 (some 16) rfl rfl hS1 (Gn _) id ?_ (Mw (v:= .agg (Ap.cs).toArray) 10 (some 8) 53 (Ap.cs) rfl rfl (by kernel_rfl) rfl (fun w=>by kernel_rfl) rfl (Nat.succ_pos _) hS1 (fun _ hZ=>cu hZ) ?_ gn))
 ·intro Yt1 hqt1
  simp only[nn]
  refine gr (rs:= [5,10]) (gcB 5 (some 17) rfl rfl hqt1 (Rs h j q Bm _ (H.on hqt1.fr.below) hl hj Ks) id ?_ (Mw (v:= .agg (Ap.cs).toArray) 10 (some 8) 53 (Ap.cs) rfl rfl (by kernel_rfl) rfl (fun w=>by kernel_rfl) rfl (Nat.succ_pos _) hqt1 (fun _ hZ=>cu hZ) ?_ gn))
  ·intro Yt2 hqt2
   refine gp 6 (some 11) (.tuple #[(getD q.T Bm).agg, .bool (q.T.find Bm).isSome, .nilIface]) rfl rfl (hqt2) ?_
   refine gp 7 (some 18) ((getD q.T Bm).agg) rfl rfl (hqt2) ?_
   refine gp 8 (some 19) (.bool (q.T.find Bm).isSome) rfl rfl (hqt2) ?_
   refine gp 9 (some 20) (.nilIface) rfl rfl (hqt2) ?_
   refine gr (rs:= [10]) (Mw (v:= .agg (Ap.cs).toArray) 10 (some 8) 53 (Ap.cs) rfl rfl (by kernel_rfl) rfl (fun w=>by kernel_rfl) rfl (Nat.succ_pos _) hqt2 (fun _ hZ=>cu hZ) ?_ gn)
   intro Yt3 Bt3 hEt3 hqt3
   clear hEt3
   simp only[nn]
   refine gr (rs:= [11]) (Lv (vs:=(getD q.T Bm).cs) (new:=(getD q.T Bm).cs) 11 1 53 rfl rfl (by kernel_rfl) rfl rfl rfl rfl (Jy _) szD hqt3 rfl (by simp[Dp,VV.cs,KK.cs,DD.cs,OB.cs,hcs,Ap,Be]) (by simp[Dp,VV.cs,KK.cs,DD.cs,OB.cs,hcs,Ap,Be]) (fun _ hZ=>cu hZ) ?_ gn)
   intro Yt4 hqt4
   refine gp 12 (some 9) (.bool (q.T.find Bm).isSome) rfl rfl (cu hqt4) ?_
   refine gp 13 (some 10) (.nilIface) rfl rfl (cu hqt4) ?_
   refine wpAnyH_done (by kernel_rfl) ?_ _
   try simp only[nn]
   have SS:=Ab hqt4
   go_wp2
   have hS2:Sy w _ [] [Ku B0,Am Bt3 ((getD q.T Bm).cs)]:=(Aa SS).drew
   clear SS
   refine wp_region_held_drew (P:=prog) (S:=fun X=>Sy w X [] _) (by kernel_rfl) (hS2) (fun hS0=> ?_)
   refine gp 0 (some 21) (.pointer (some ⟨Bt3,0,none⟩)) rfl rfl (hS2) ?_
   refine gp 1 (some 22) (.pointer (some ⟨Bt3,2,none⟩)) rfl rfl (hS2) ?_
   refine gq 2 (some 23) (.float .f64 (getD q.T Bm).v.x) rfl rfl (fun X hX=>Ai 33 isAgg33 rfl rfl (hX.hold 1 rfl) rfl) (hS2) ?_
   refine gq 3 (some 24) (.int .u32 (n:Nat)) rfl rfl (fun X hX=>ex_cv hn rfl rfl) (hS2) ?_
   refine gp 4 (some 25) (.pointer (some ⟨Bt3,15,none⟩)) rfl rfl (hS2) ?_
   refine gq 5 (some 26) (.int .i64 (getD q.T Bm).w) rfl rfl (fun X hX=>Ai 51 isAgg51 rfl rfl (hX.hold 1 rfl) rfl) (hS2) ?_
   refine gq 6 (some 27) (.bool true) rfl rfl (fun X hX=>Ub rfl rfl rfl hw) (hS2) ?_
   refine gp 7 (some 6) (.int .u32 (n:Nat)) rfl rfl (hS2) ?_
   refine gp 8 (some 7) (.bool true) rfl rfl (hS2) ?_
   refine wpAnyH_done (by kernel_rfl) ?_ _
   try simp only[nn]
   have SS:=Ab hS2
   go_wp2
   go_ret2
   exact⟨rfl,(Aa SS).fr.below⟩
  ·intro Yt5 Bt5 hEt5 hqt5
   clear hEt5
   simp only[nn]
   refine gr (rs:= [5]) (gcB 5 (some 17) rfl rfl hqt5 (Rs h j q Bm _ (H.on hqt5.fr.below) hl hj Ks) (fun x=>cu x) ?_ gn)
   intro Yt6 hqt6
   refine gp 6 (some 11) (.tuple #[(getD q.T Bm).agg, .bool (q.T.find Bm).isSome, .nilIface]) rfl rfl (cu hqt6) ?_
   refine gp 7 (some 18) ((getD q.T Bm).agg) rfl rfl (cu hqt6) ?_
   refine gp 8 (some 19) (.bool (q.T.find Bm).isSome) rfl rfl (cu hqt6) ?_
   refine gp 9 (some 20) (.nilIface) rfl rfl (cu hqt6) ?_
   refine gr (rs:= [11]) (Lv (vs:=(getD q.T Bm).cs) (new:=(getD q.T Bm).cs) 11 1 53 rfl rfl (by kernel_rfl) rfl rfl rfl rfl (Jy _) szD hqt6 rfl (by simp[Dp,VV.cs,KK.cs,DD.cs,OB.cs,hcs,Ap,Be]) (by simp[Dp,VV.cs,KK.cs,DD.cs,OB.cs,hcs,Ap,Be]) (fun _ hZ=>cu hZ) ?_ gn)
   intro Yt7 hqt7
   refine gp 12 (some 9) (.bool (q.T.find Bm).isSome) rfl rfl (cu hqt7) ?_
   refine gp 13 (some 10) (.nilIface) rfl rfl (cu hqt7) ?_
   refine wpAnyH_done (by kernel_rfl) ?_ _
   try simp only[nn]
   have SS:=Ab hqt7
   go_wp2
   have hS2:Sy w _ [] [Ku B0,Am Bt5 ((getD q.T Bm).cs)]:=(Aa SS).drew
   clear SS
   refine wp_region_held_drew (P:=prog) (S:=fun X=>Sy w X [] _) (by kernel_rfl) (hS2) (fun hS0=> ?_)
   refine gp 0 (some 21) (.pointer (some ⟨Bt5,0,none⟩)) rfl rfl (hS2) ?_
   refine gp 1 (some 22) (.pointer (some ⟨Bt5,2,none⟩)) rfl rfl (hS2) ?_
   refine gq 2 (some 23) (.float .f64 (getD q.T Bm).v.x) rfl rfl (fun X hX=>Ai 33 isAgg33 rfl rfl (hX.hold 1 rfl) rfl) (hS2) ?_
   refine gq 3 (some 24) (.int .u32 (n:Nat)) rfl rfl (fun X hX=>ex_cv hn rfl rfl) (hS2) ?_
   refine gp 4 (some 25) (.pointer (some ⟨Bt5,15,none⟩)) rfl rfl (hS2) ?_
   refine gq 5 (some 26) (.int .i64 (getD q.T Bm).w) rfl rfl (fun X hX=>Ai 51 isAgg51 rfl rfl (hX.hold 1 rfl) rfl) (hS2) ?_
   refine gq 6 (some 27) (.bool true) rfl rfl (fun X hX=>Ub rfl rfl rfl hw) (hS2) ?_
   refine gp 7 (some 6) (.int .u32 (n:Nat)) rfl rfl (hS2) ?_
   refine gp 8 (some 7) (.bool true) rfl rfl (hS2) ?_
   refine wpAnyH_done (by kernel_rfl) ?_ _
   try simp only[nn]
   have SS:=Ab hS2
   go_wp2
   go_ret2
   exact⟨rfl,(Aa SS).fr.below⟩
 ·intro Yt8 Bt8 hEt8 hqt8
  clear hEt8
  simp only[nn]
  refine gr (rs:= [4]) (gcB 4 (some 16) rfl rfl hqt8 (Gn _) (fun x=>cu x) ?_ gn)
  intro Yt9 hqt9
  simp only[nn]
  refine gr (rs:= [5]) (gcB 5 (some 17) rfl rfl hqt9 (Rs h j q Bm _ (H.on hqt9.fr.below) hl hj Ks) (fun x=>cu x) ?_ gn)
  intro Yt10 hqt10
  refine gp 6 (some 11) (.tuple #[(getD q.T Bm).agg, .bool (q.T.find Bm).isSome, .nilIface]) rfl rfl (cu hqt10) ?_
  refine gp 7 (some 18) ((getD q.T Bm).agg) rfl rfl (cu hqt10) ?_
  refine gp 8 (some 19) (.bool (q.T.find Bm).isSome) rfl rfl (cu hqt10) ?_
  refine gp 9 (some 20) (.nilIface) rfl rfl (cu hqt10) ?_
  refine gr (rs:= [11]) (Lv (vs:=(getD q.T Bm).cs) (new:=(getD q.T Bm).cs) 11 1 53 rfl rfl (by kernel_rfl) rfl rfl rfl rfl (Jy _) szD hqt10 rfl (by simp[Dp,VV.cs,KK.cs,DD.cs,OB.cs,hcs,Ap,Be]) (by simp[Dp,VV.cs,KK.cs,DD.cs,OB.cs,hcs,Ap,Be]) (fun _ hZ=>cu hZ) ?_ gn)
  intro Yt11 hqt11
  refine gp 12 (some 9) (.bool (q.T.find Bm).isSome) rfl rfl (cu hqt11) ?_
  refine gp 13 (some 10) (.nilIface) rfl rfl (cu hqt11) ?_
  refine wpAnyH_done (by kernel_rfl) ?_ _
  try simp only[nn]
  have SS:=Ab hqt11
  go_wp2
  have hS2:Sy w _ [] [Ku B0,Am Bt8 ((getD q.T Bm).cs)]:=(Aa SS).drew
  clear SS
  refine wp_region_held_drew (P:=prog) (S:=fun X=>Sy w X [] _) (by kernel_rfl) (hS2) (fun hS0=> ?_)
  refine gp 0 (some 21) (.pointer (some ⟨Bt8,0,none⟩)) rfl rfl (hS2) ?_
  refine gp 1 (some 22) (.pointer (some ⟨Bt8,2,none⟩)) rfl rfl (hS2) ?_
  refine gq 2 (some 23) (.float .f64 (getD q.T Bm).v.x) rfl rfl (fun X hX=>Ai 33 isAgg33 rfl rfl (hX.hold 1 rfl) rfl) (hS2) ?_
  refine gq 3 (some 24) (.int .u32 (n:Nat)) rfl rfl (fun X hX=>ex_cv hn rfl rfl) (hS2) ?_
  refine gp 4 (some 25) (.pointer (some ⟨Bt8,15,none⟩)) rfl rfl (hS2) ?_
  refine gq 5 (some 26) (.int .i64 (getD q.T Bm).w) rfl rfl (fun X hX=>Ai 51 isAgg51 rfl rfl (hX.hold 1 rfl) rfl) (hS2) ?_
  refine gq 6 (some 27) (.bool true) rfl rfl (fun X hX=>Ub rfl rfl rfl hw) (hS2) ?_
  refine gp 7 (some 6) (.int .u32 (n:Nat)) rfl rfl (hS2) ?_
  refine gp 8 (some 7) (.bool true) rfl rfl (hS2) ?_
  refine wpAnyH_done (by kernel_rfl) ?_ _
  try simp only[nn]
  have SS:=Ab hS2
  go_wp2
  go_ret2
  exact⟨rfl,(Aa SS).fr.below⟩
end
section
open Go Go.Proofs Go.Maps Go.RowKit FM
attribute [local go_sem] Ad Ag Ak Df Bi Ae Bg
def nf (n:Nat):Nat:=FloatKind.f64.nearest (n:Int)
def nfOk (n:Nat):Bool:=decide ((FloatKind.f64.decode (nf n)).toInt .zero=some (n:Int)) && decide (nf n<2^64)
theorem nfAll:(List.range 2001).all nfOk=true:=by kernel_rfl
theorem nfMax:nfOk 4294967295=true:=by kernel_rfl
theorem nf_ok {n:Nat} (h:n<=2000∨n=4294967295):nfOk n=true:=by
 rcases h with h|rfl
 ·exact List.all_eq_true.1 nfAll n (List.mem_range.2 (by omega))
 ·exact nfMax
theorem nf_lt {n:Nat} (h:n<=2000∨n=4294967295):nf n<2^64:=by
 have:=nf_ok h
 unfold nfOk at this
 simp only[Bool.and_eq_true,decide_eq_true_eq] at this
 exact this.2
theorem Zcg {n:Nat} (h:n<=2000∨n=4294967295):Cv (nf n) n:=by
 have h1:=nf_ok h
 unfold nfOk at h1
 simp only[Bool.and_eq_true,decide_eq_true_eq] at h1
 intro w
 have hm:IntKind.u32.min<=(n:Int)/\(n:Int)<=IntKind.u32.max:=by
  have e1:IntKind.u32.min=0:=by decide
  have e2:IntKind.u32.max=4294967295:=by decide
  rw[e1,e2]
  omega
 simp[go_sem,convert,Conv.floatToInt,h1.1,hm]
theorem Ev {o:Oper} {a:Act} {w:World} {x:Operand} {n:Nat} (ho:o.op= .convert 44 33 x) (hx:a.eval x= .int .u32 (n:Nat)):(execOp a.eval o).run Tryz.prog w= .ok (.value (.float .f64 (nf n))) w:=by
 unfold execOp
 simp only[ho,hx]
 simp[go_sem,convert,Conv.intToFloat,nf]
theorem Zcu {o:Oper} {a:Act} {w:World} (ho:o.op= .build 83 #[]):(execOp a.eval o).run Tryz.prog w= .ok (.value (.agg #[])) w:=by
 have e:(Instr.build 83 #[]).run Tryz.prog w= .ok (.agg #[]) w:=by kernel_rfl
 unfold execOp
 simp only[ho]
 simp[e]
theorem Lo (h:HP) (j:Nat) (q:OB) (n:Nat) (w:World) (H:h.Is w) (hl:h.l.length<=65536) (hj:h.l[j]? =some q) (hq:q.c=3) (hn:Cv (getD q.T Bm).v.x n) (hw:(getD q.T Bm).w=2):Calls Tryz.prog 19 #[.pointer (some ⟨h.b,0,none⟩), .int .i64 ((j:Int)+1)] w fun e w'=>e= .returned (.tuple #[.int .u32 (n:Nat), .int .i64 0])/\Below w.heap.size w w':=by
 have HA:=isarr_h h j q w H hl hj hq
 have HB:=Zam h j q n w H hl hj hn hw
 clear H
 go_enter Tryz.func19,Tryz.ntmps19
 go_wp2_with fail
 refine HA.mono ?_
 rintro _ _ ⟨rfl,rfl⟩
 go_wp2_with (first|go_skip|((with_reducible show wpList ..);first|(refine rd rfl (Zcu rfl) ?_)))
 refine HB.mono ?_
 rintro _ Y ⟨rfl,hb⟩
 have HBB:=Ab hb
 clear hb
 go_wp2
 go_ret2
 exact⟨rfl,Aa HBB⟩
