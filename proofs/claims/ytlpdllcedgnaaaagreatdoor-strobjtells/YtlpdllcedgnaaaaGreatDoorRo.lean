import Derived.Test.YtlpdllcedgnaaaaGreatDoorRl
import Derived.Test.YtlpdllcedgnaaaaGreatDoorRm
import Derived.Test.YtlpdllcedgnaaaaGreatDoorRn
set_option linter.all false
namespace Go.Proofs.YtlpdllcedgnaaaaGreatDoor
set_option maxRecDepth 100000
set_option maxHeartbeats 0
section
open Go Go.Proofs Go.Maps Go.RowKit FM Tryz
attribute [local go_sem] Ao Ai Am Dq Dp Br Ah Bq
theorem ex_bhp {o:Oper} {a:Act} {w:World} {x1 x2 x3:Operand} (c f d:Int) (ho:o.op= .build 77 #[(1,x1),(2,x2),(3,x3)]) (h1:a.eval x1= .int .i64 c) (h2:a.eval x2= .int .i64 f) (h3:a.eval x3= .int .i64 d):(execOp a.eval o).run prog w= .ok (.value (.agg (hcs ⟨0, .slice none 0 0, [],c,f,d,0⟩).toArray)) w:=by
 have e:(Instr.build 77 #[(1, .int .i64 c),(2, .int .i64 f),(3, .int .i64 d)]).run prog w= .ok (.agg (hcs ⟨0, .slice none 0 0, [],c,f,d,0⟩).toArray) w:=by kernel_rfl
 unfold execOp
 simp only[ho,List.map_toArray,List.map_cons,List.map_nil,h1,h2,h3]
 simp[e]
def Lm (c f d:Int):Bool:=decide (c<0)||(decide (65536<c)||(decide (f<0)||(decide (d<1)||decide (256<d))))
def Gf (b:Nat) (c f d:Int):HP:=⟨b, .slice none 0 0, [],c,f,d,0⟩
theorem new_is {w X:World} {B:Nat} {c f d:Int} (S:Sy w X [] [Bf B (hcs ⟨0, .slice none 0 0, [],c,f,d,0⟩)]) (h6:3<=w.heap.size):(Gf B c f d).Is X:=by
 have hB:=S.hold 0 rfl
 have hlo:w.heap.size<=B:=(S.lo _ (List.mem_cons_self ..) B (List.mem_singleton.2 rfl)).elim (fun h=>by cases h) id
 refine⟨fun o ho=> ?_, ?_,fun b hb=> ?_⟩
 ·rcases List.mem_cons.1 ho with rfl|ho
  ·exact⟨hB,by simp[hcs]⟩
  rcases List.mem_cons.1 ho with rfl|ho
  ·exact⟨rfl, .inl ⟨rfl,rfl⟩⟩
  ·cases ho
 ·simp[HP.things,Gf,Dm,Value.ownBlock]
 ·have:b=B:=by simpa [HP.blocks,HP.things,Gf,Dm,Bf,Value.ownBlock] using hb
  omega
theorem Ub (B:Nat) (c f d:Int):(Gf B c f d).blocks= [B]:=by simp[HP.blocks,HP.things,Gf,Dm,Bf,Value.ownBlock]
def NewP (c f d:Int) (w:World) (e:Ending) (w':World):Prop:=(Lm c f d=true/\e= .returned (.tuple #[.pointer none, .int .i64 7])/\Below w.heap.size w w')∨(Lm c f d=false/\ ∃B,e= .returned (.tuple #[.pointer (some ⟨B,0,none⟩), .int .i64 0])/\(Gf B c f d).Is w'/\w.heap.size<=B/\Below w.heap.size w w')
theorem new_h (c f d:Int) (w:World) (h6:3<=w.heap.size):Calls prog 6 #[.int .i64 c, .int .i64 f, .int .i64 d] w (NewP c f d w):=by
 have SS:=Ab (Sy.nil w [])
 by_cases h1:c<0
 ·have d1:decide (c<0)=true:=decide_eq_true h1
  go_enter func6,ntmps6
  go_wp2
  go_ret2
  exact .inl ⟨by unfold Lm;simp[*],rfl,(Aa SS).fr.below⟩
 ·have d1:decide (c<0)=false:=decide_eq_false h1
  by_cases h2:65536<c
  ·have d2:decide (65536<c)=true:=decide_eq_true h2
   go_enter func6,ntmps6
   go_wp2
   go_ret2
   exact .inl ⟨by unfold Lm;simp[*],rfl,(Aa SS).fr.below⟩
  ·have d2:decide (65536<c)=false:=decide_eq_false h2
   by_cases h3:f<0
   ·have d3:decide (f<0)=true:=decide_eq_true h3
    go_enter func6,ntmps6
    go_wp2
    go_ret2
    exact .inl ⟨by unfold Lm;simp[*],rfl,(Aa SS).fr.below⟩
   ·have d3:decide (f<0)=false:=decide_eq_false h3
    by_cases h4:d<1
    ·have d4:decide (d<1)=true:=decide_eq_true h4
     go_enter func6,ntmps6
     go_wp2
     go_ret2
     exact .inl ⟨by unfold Lm;simp[*],rfl,(Aa SS).fr.below⟩
    ·have d4:decide (d<1)=false:=decide_eq_false h4
     by_cases h5:256<d
     ·have d5:decide (256<d)=true:=decide_eq_true h5
      go_enter func6,ntmps6
      go_wp2
      go_ret2
      exact .inl ⟨by unfold Lm;simp[*],rfl,(Aa SS).fr.below⟩
     ·have d5:decide (256<d)=false:=decide_eq_false h5
      go_enter func6,ntmps6
      go_wp2_with (first|go_skip|((with_reducible show wpList ..);first|(refine rd rfl (ex_bhp c f d rfl rfl rfl rfl) ?_)|(refine zB 77 (hcs ⟨0, .slice none 0 0, [],c,f,d,0⟩) (by rfl) rfl rfl rfl SS ?_;clear SS;intro Xa Ba SS;simp only[nn])))
      go_ret2
      exact .inr ⟨by unfold Lm;simp[*],Ba,rfl,new_is (Aa SS) h6,((Aa SS).lo _ (List.mem_cons_self ..) Ba (List.mem_singleton.2 rfl)).elim (fun h=>by cases h) id,(Aa SS).fr.below⟩
def ZbE:ByteArray:=⟨#[108,101,110,103,116,104]⟩
def lenK:KK:=⟨ZbE,0⟩
def Ja (x:Nat):VV:=⟨4,false,x,ByteArray.empty,0⟩
theorem ex_lk {o:Oper} {a:Act} {w:World} {x:Operand} (ho:o.op= .build 40 #[(0,x)]) (hx:a.eval x= .string ZbE):(execOp a.eval o).run prog w= .ok (.value (.agg lenK.cs.toArray)) w:=by
 have e:(Instr.build 40 #[(0, .string ZbE)]).run prog w= .ok (.agg lenK.cs.toArray) w:=by kernel_rfl
 unfold execOp
 simp only[ho,List.map_toArray,List.map_cons,List.map_nil,hx]
 simp[e]
theorem cellsM:prog.cellsOf 87=0:=by kernel_rfl
theorem byteOf0 {w:World} {B:Nat} (h:w.heap[B]? =some (Obj.cells #[] 87)):(byteOf ⟨B,0,none⟩).run prog w= .ok 0 w:=by
 have hs:w.shape? B=some (87,0):=by simp[World.shape?,h]
 have hv:(viewAt B).run prog w= .ok none w:=by simp[viewAt,go_sem,hs]
 unfold byteOf
 simp[go_sem,noView,cellsM,hs,hv]
def empO (B:Nat):Ob:=⟨[B],fun X=>X.heap[B]? =some (Obj.cells #[] 87)⟩
theorem empO_ok (B:Nat):(empO B).Ok:=⟨fun h k=>(h B (List.mem_singleton.2 rfl)).trans k,fun h b hb=>by
 obtain rfl:=List.mem_singleton.1 hb
 exact(Array.getElem?_eq_some_iff.1 h).1⟩
theorem Sy.emp {w X:World} {E:List Nat} {L:List Ob} (h:Sy w X E L) (i:Nat) {B:Nat} (hi:L[i]? =some (empO B)):X.heap[B]? =some (Obj.cells #[] 87):=h.get i hi
theorem faM {o:Oper} {a:Act} {w:World} {x:Operand} {B:Nat} (ho:o.op= .fieldAddr 87 x 0) (hx:a.eval x= .pointer (some ⟨B,0,none⟩)) (h:w.heap[B]? =some (Obj.cells #[] 87)):(execOp a.eval o).run prog w= .ok (.value (.pointer (some ⟨B,0,none⟩))) w:=by
 unfold execOp
 simp only[ho,hx]
 simp[go_sem,partAt,byteOf0 h]
theorem ldO {o:Oper} {a:Act} {w:World} {x:Operand} {B:Nat} (ho:o.op= .load 85 x) (hx:a.eval x= .pointer (some ⟨B,0,none⟩)):(execOp a.eval o).run prog w= .ok (.value (.agg #[])) w:=by
 unfold execOp
 simp only[ho,hx]
 simp[go_sem]
theorem ldM {o:Oper} {a:Act} {w:World} {x:Operand} {B:Nat} (ho:o.op= .load 87 x) (hx:a.eval x= .pointer (some ⟨B,0,none⟩)):(execOp a.eval o).run prog w= .ok (.value (.agg #[])) w:=by
 unfold execOp
 simp only[ho,hx]
 simp[go_sem]
theorem bxE {ops:Array Oper} {rest:List Oper} {Q:Exit->Act->World->Prop} {w w0:World} {a:Act} {o:Oper} {E:List Nat} {L:List Ob} {x:Operand} (hw:Region.wanted o (yielded ops a.tmps)=true) (ho:o.op= .box 87 x) (hx:a.eval x= .agg #[]) (hL:Sy w0 w E L)
(h: ∀X B,Sy w0 X E (L++ [empO B])->wpList prog ops Q rest (a.put o.dst (.pointer (some ⟨B,0,none⟩))) X):wpList prog ops Q (o::rest) a w:=by
 refine BigFrame.wpList_want hw fun K hK=> ?_
 have hP:=hK _ _ (h _ w.heap.size (hL.add (empO_ok _) (show (w.alloc (Obj.cells #[] 87)).heap[w.heap.size]? =_ from Array.getElem?_push_size) ((Below.refl _ _).alloc (Nat.le_refl _) _) (fun b hb=>by rw[List.mem_singleton.1 hb];exact Nat.le_refl _)))
 have e2:(Instr.box 87 (.agg #[])).run prog w= .ok (.pointer (some ⟨w.heap.size,0,none⟩)) (w.alloc (Obj.cells #[] 87)):=rfl
 unfold Oper.wp execOp
 simp only[ho,hx]
 simp[e2]
 exact hP
theorem Pk:goodK lenK=true:=by kernel_rfl
theorem lenK_ok:OkK lenK:=Kj Pk
def ofS (l:List Nat):ByteArray:=⟨((M.ofL l).map UInt8.ofNat).toArray⟩
theorem Rx {s:ByteArray} {l:List Nat} (h:Az s=M.ofL l):s=ofS l:=by
 apply ZaA
 rw[h]
 show _=Az ⟨_⟩
 rw[Qv,Zw]
 intro x hx
 rw[←h] at hx
 exact Ki s x hx
theorem Rw {l:List Nat} (h: ∀x∈l,x<65536):Az (ofS l)=M.ofL l:=by
 show Az ⟨_⟩=_
 rw[Qv,Zw]
 intro x hx
 unfold M.ofL at hx
 obtain⟨c,hc,hx⟩:=List.mem_flatMap.1 hx
 exact E_256 c (Zc3 l h c hc) x hx
theorem Rv {l:List Nat} (h: ∀x∈l,x<65536):vS (ofS l)=true/\unS (ofS l)=l:=of_un h (Rw h)
theorem ofS_self {s:ByteArray} (h:vS s=true):ofS (unS s)=s:=(Rx (un_ok h)).symm
def Do (s:ByteArray):VV:=⟨5,false,0,s,0⟩
def nulV:VV:=⟨2,false,0,ByteArray.empty,0⟩
def Rr (i:Int):VV:=⟨7,false,0,ByteArray.empty,i⟩
theorem dN_app (most:Nat): ∀(m:Nat) (l:List Nat),1<=m->m<=most->dgF most (dN m++l) 0=dgF most l m:=by
 intro m
 induction m using Nat.strongRecOn with
 |_ m ih=>
  intro l h1 hm
  by_cases h:m<10
  ·rw[Vb h]
   show dgF most ((48+m)::l) 0=_
   rw[dgF,if_neg (by omega),if_neg (by omega)]
   have e:0 * 10+(48+m - 48)=m:=by omega
   rw[e]
  ·have e:=ZcJ (n:=m / 10) (e:=m % 10) (by omega) (by omega)
   rw[show m / 10 * 10+m % 10=m by omega] at e
   rw[e,List.append_assoc,ih (m / 10) (by omega) _ (by omega) (by omega)]
   show dgF most ((48+m % 10)::l) _=_
   rw[dgF,if_neg (by omega),if_neg (by omega)]
   have e2:m / 10 * 10+(48+m % 10 - 48)=m:=by omega
   rw[e2]
theorem dN_head: ∀(m:Nat),1<=m-> ∃c r,dN m=c::r/\c≠48:=by
 intro m
 induction m using Nat.strongRecOn with
 |_ m ih=>
  intro h1
  by_cases h:m<10
  ·exact⟨48+m, [],Vb h,by omega⟩
  ·have e:=ZcJ (n:=m / 10) (e:=m % 10) (by omega) (by omega)
   rw[show m / 10 * 10+m % 10=m by omega] at e
   obtain⟨c,r,h2,h3⟩:=ih (m / 10) (by omega) (by omega)
   exact⟨c,r++ [48+m % 10],by rw[e,h2];rfl,h3⟩
theorem dgV_dN {most m:Nat} (hm:m<=most):dgV most (dN m)=some m:=by
 by_cases h:1<=m
 ·obtain⟨c,r,h1,h2⟩:=dN_head m h
  have e:=dN_app most m [] h hm
  rw[List.append_nil,h1] at e
  rw[h1]
  show (if c=48/\r≠ [] then none else dgF most (c::r) 0)=some m
  rw[if_neg (fun h=>h2 h.1)]
  exact e
 ·obtain rfl:m=0:=by omega
  rw[Vb (by omega)]
  simp[dgV,dgF]
def Gc (i:Nat):KK:=⟨Kv i,0⟩
theorem Zde (i:Nat):Az (Kv i)=dN i:=rfl
def ixS (k:KK):Option Nat:=dgV 9007199254740991 (Az k.s)
def ixU (n:Nat) (k:KK):Option Nat:=match ixS k with
 |some i=>if i<n then some i else none
 |none=>none
theorem Zi {n i:Nat} (h:i<n) (hn:n<=1048576):ixU n (Gc i)=some i:=by
 unfold ixU ixS Gc
 dsimp only
 rw[Zde,dgV_dN (by omega)]
 simp[h]
theorem ixU_len (n:Nat):ixU n lenK=none:=by
 have h:ixS lenK=none:=by decide
 unfold ixU
 rw[h]
def Zbf (u:List Nat) (i:Nat):DD:=⟨Do (ofS ((u.drop i).take 1)),Bh,Bh,1,2,1⟩
def unD (u:List Nat) (k:KK):DD:=match ixU u.length k with
 |some i=>Zbf u i
 |none=>Al
def unB (u:List Nat) (k:KK):Bool:=(ixU u.length k).isSome
theorem Zcn (x:Nat) (w:World):Calls prog 26 #[.float .f64 x] w fun e w'=>e= .returned ((Ja x).agg)/\Below w.heap.size w w':=by
 have SS:=Ab (Sy.nil w [])
 go_enter func26,ntmps26
 go_wp2_with (first|go_skip|((with_reducible show wpList ..);first|(refine zA 36 (Bh.cs) (by rfl) rfl SS ?_;clear SS;intro Xa Ba SS;simp only[nn])))
 refine(Zaq x _).mono ?_
 rintro _ Y1 ⟨rfl,hb1⟩
 replace SS:=Ab ((Aa SS).on hb1)
 clear hb1
 rw[Dj]
 go_wp2_with (first|go_skip|((with_reducible show wpList ..);first|(refine zS ((Ja x).cs) 0 36 (by rfl) rfl rfl rfl rfl (Jl _) szV SS rfl ?_;clear SS;intro Xz SS;simp only[nn])))
 refine Qe rwV szV rfl rfl rfl ((Aa SS).hold 0 rfl) rfl ?_
 exact⟨rfl,(Aa SS).fr.below⟩
theorem Gs (w:World):Calls prog 9 #[] w fun e w'=>e= .returned (nulV.agg)/\Below w.heap.size w w':=by
 have SS:=Ab (Sy.nil w [])
 go_enter func9,ntmps9
 go_wp2_with (first|go_skip|((with_reducible show wpList ..);first|(refine zA 36 (Bh.cs) (by rfl) rfl SS ?_;clear SS;intro Xa Ba SS;simp only[nn])))
 refine(Zar _).mono ?_
 rintro _ Y1 ⟨rfl,hb1⟩
 replace SS:=Ab ((Aa SS).on hb1)
 clear hb1
 rw[Dj]
 go_wp2_with (first|go_skip|((with_reducible show wpList ..);first|(refine zS (nulV.cs) 0 36 (by rfl) rfl rfl rfl rfl (Jl _) szV SS rfl ?_;clear SS;intro Xz SS;simp only[nn])))
 refine Qe rwV szV rfl rfl rfl ((Aa SS).hold 0 rfl) rfl ?_
 exact⟨rfl,(Aa SS).fr.below⟩
theorem Vc (v:VV) (hg:v.good=true) (w:World) (hT:Lib.Utf8Tabs 0 1 w):Calls prog 49 #[v.agg] w fun e w'=>e= .returned (v.agg)/\Below w.heap.size w w':=by
 have SS:=Ab (Sy.nil w [])
 have HT:=Ab hT
 clear hT
 have HI:=fun X h=>ZaJ v hg X h
 have HO:=fun X=>Zap v hg X
 clear hg
 generalize v.ifc=f at HI HO
 simp only[Dj] at HI HO ⊢
 go_enter func49,ntmps49
 go_wp2_with (first|go_skip|((with_reducible show wpList ..);first|(refine zB 36 (v.cs) (by rfl) rfl rfl rfl SS ?_;clear SS;intro Xa Ba SS;simp only[nn])|(refine zA 36 (Bh.cs) (by rfl) rfl SS ?_;clear SS;intro Xb Bb SS;simp only[nn])|(refine zL (v.cs) 36 5 0 rwV szV (by rfl) rfl rfl SS rfl rfl rfl ?_;simp only[nn])))
 refine(HI _ (Ag (Aa HT) (Aa SS).fr.below)).mono ?_
 rintro _ Y1 ⟨rfl,hb1⟩
 replace SS:=Ab ((Aa SS).on hb1)
 clear hb1
 go_wp2_with fail
 refine(HO _).mono ?_
 rintro _ Y2 ⟨rfl,hb2⟩
 replace SS:=Ab ((Aa SS).on hb2)
 clear hb2
 go_wp2_with (first|go_skip|((with_reducible show wpList ..);first|(refine zS (v.cs) 1 36 (by rfl) rfl rfl rfl rfl (Jl _) szV SS rfl ?_;clear SS;intro Xz SS;simp only[nn])))
 refine Qe rwV szV rfl rfl rfl ((Aa SS).hold 1 rfl) rfl ?_
 exact⟨rfl,(Aa SS).fr.below⟩
theorem ZcD {o:Oper} {a:Act} {w:World} {x:Operand} {s:ByteArray} (ho:o.op= .build 36 #[(0, .const (.int .i64 5)),(3,x)]) (hx:a.eval x= .string s):(execOp a.eval o).run prog w= .ok (.value (.agg (Do s).cs.toArray)) w:=by
 have e:(Instr.build 36 #[(0, .int .i64 5),(3, .string s)]).run prog w= .ok (.agg (Do s).cs.toArray) w:=by kernel_rfl
 unfold execOp
 simp only[ho,List.map_toArray,List.map_cons,List.map_nil,hx]
 simp[e,Act.eval]
theorem ex_bRef {o:Oper} {a:Act} {w:World} {x:Operand} {i:Int} (ho:o.op= .build 36 #[(0, .const (.int .i64 7)),(4,x)]) (hx:a.eval x= .int .i64 i):(execOp a.eval o).run prog w= .ok (.value (.agg (Rr i).cs.toArray)) w:=by
 have e:(Instr.build 36 #[(0, .int .i64 7),(4, .int .i64 i)]).run prog w= .ok (.agg (Rr i).cs.toArray) w:=by kernel_rfl
 unfold execOp
 simp only[ho,List.map_toArray,List.map_cons,List.map_nil,hx]
 simp[e,Act.eval]
theorem Zae {s:ByteArray} (h:Gh s=true):(Do s).good=true:=by
 simp[VV.good,Gi,Ni,Do,inG,h]
theorem str_bad {s:ByteArray} (h:Gh s=false):(Do s).good=false:=by
 simp[VV.good,Gi,Ni,Do,inG,h]
theorem ref_good:(Rr 1).good=true:=by
 simp[VV.good,Gi,Ni,Rr,inG]
theorem Qt (s:ByteArray) (hs:Gh s=true) (w:World) (hT:Lib.Utf8Tabs 0 1 w):Calls prog 22 #[.string s] w fun e w'=>e= .returned ((Do s).agg)/\Below w.heap.size w w':=by
 have SS:=Ab (Sy.nil w [])
 have HT:=Ab hT
 clear hT
 have HC:=fun X h=>Vc (Do s) (Zae hs) X h
 simp only[Dj] at HC ⊢
 clear hs
 go_enter func22,ntmps22
 go_wp2_with (first|go_skip|((with_reducible show wpList ..);first|(refine zA 36 (Bh.cs) (by rfl) rfl SS ?_;clear SS;intro Xa Ba SS;simp only[nn])|(refine rd rfl (ZcD rfl rfl) ?_)))
 refine(HC _ (Ag (Aa HT) (Aa SS).fr.below)).mono ?_
 rintro _ Y1 ⟨rfl,hb1⟩
 replace SS:=Ab ((Aa SS).on hb1)
 clear hb1
 go_wp2_with (first|go_skip|((with_reducible show wpList ..);first|(refine zS ((Do s).cs) 0 36 (by rfl) rfl rfl rfl rfl (Jl _) szV SS rfl ?_;clear SS;intro Xz SS;simp only[nn])))
 refine Qe rwV szV rfl rfl rfl ((Aa SS).hold 0 rfl) rfl ?_
 exact⟨rfl,(Aa SS).fr.below⟩
theorem ref_any (w:World) (hT:Lib.Utf8Tabs 0 1 w):Calls prog 14 #[.int .i64 1] w fun e w'=>e= .returned ((Rr 1).agg)/\Below w.heap.size w w':=by
 have SS:=Ab (Sy.nil w [])
 have HT:=Ab hT
 clear hT
 have HC:=fun X h=>Vc (Rr 1) ref_good X h
 simp only[Dj] at HC ⊢
 go_enter func14,ntmps14
 go_wp2_with (first|go_skip|((with_reducible show wpList ..);first|(refine zA 36 (Bh.cs) (by rfl) rfl SS ?_;clear SS;intro Xa Ba SS;simp only[nn])|(refine rd rfl (ex_bRef rfl rfl) ?_)))
 refine(HC _ (Ag (Aa HT) (Aa SS).fr.below)).mono ?_
 rintro _ Y1 ⟨rfl,hb1⟩
 replace SS:=Ab ((Aa SS).on hb1)
 clear hb1
 go_wp2_with (first|go_skip|((with_reducible show wpList ..);first|(refine zS ((Rr 1).cs) 0 36 (by rfl) rfl rfl rfl rfl (Jl _) szV SS rfl ?_;clear SS;intro Xz SS;simp only[nn])))
 refine Qe rwV szV rfl rfl rfl ((Aa SS).hold 0 rfl) rfl ?_
 exact⟨rfl,(Aa SS).fr.below⟩
theorem class_h (h:HP) (j:Nat) (q:OB) (w:World) (H:h.Is w) (hl:h.l.length<=65536) (hj:h.l[j]? =some q):Calls prog 87 #[.pointer (some ⟨h.b,0,none⟩), .int .i64 ((j:Int)+1)] w fun e w'=>e= .returned (.tuple #[.int .i64 q.c, .int .i64 0])/\w'=w:=by
 have HA:=Kd h ((j:Int)+1) w H
 rw[show thE ((j:Int)+1) h.l.length=0 by unfold thE;rw[Zah hj];rfl] at HA
 have HB:=Lv h j q w H hj hl
 have HO:=Ab (H.ob hj).1
 clear H
 go_enter func87,ntmps87
 go_wp2_with fail
 refine HA.mono ?_
 rintro _ _ ⟨rfl,rfl⟩
 go_wp2_with fail
 refine HB.mono ?_
 rintro _ _ ⟨rfl,rfl⟩
 go_wp2_with (first|go_skip|((with_reducible show wpList ..);first|(refine rd rfl (Ad 3 isAgg3 rfl rfl (Aa HO) rfl) ?_)))
 go_ret2
 exact⟨rfl,rfl⟩
theorem own88 (h:HP) (j:Nat) (q:OB) (w:World) (H:h.Is w) (hl:h.l.length<=65536) (hj:h.l[j]? =some q):Calls prog 88 #[.pointer (some ⟨h.b,0,none⟩), .int .i64 ((j:Int)+1)] w fun e w'=>e= .returned (.iface q.ot q.ov)/\w'=w:=by
 have HA:=ZaO h ((j:Int)+1) w H
 rw[Zah hj] at HA
 have HB:=Lv h j q w H hj hl
 have HO:=Ab (H.ob hj).1
 clear H
 go_enter func88,ntmps88
 go_wp2_with fail
 refine HA.mono ?_
 rintro _ _ ⟨rfl,rfl⟩
 go_wp2_with fail
 refine HB.mono ?_
 rintro _ _ ⟨rfl,rfl⟩
 go_wp2_with (first|go_skip|((with_reducible show wpList ..);first|(refine rd rfl (Ad 20 isAgg20 rfl rfl (Aa HO) rfl) ?_)))
 go_ret
 exact⟨rfl,rfl⟩
theorem ta_row (v:Value) (w:World):(Instr.typeAssert (.iface 81 v) 20 81 true).run prog w= .ok (.tuple #[v, .bool true]) w:=by kernel_rfl
theorem ex_ta {o:Oper} {a:Act} {w:World} {x:Operand} {v:Value} (ho:o.op= .typeAssert x 20 81 true) (hx:a.eval x= .iface 81 v):(execOp a.eval o).run prog w= .ok (.value (.tuple #[v, .bool true])) w:=by
 unfold execOp
 simp only[ho,hx]
 simp[ta_row]
theorem own61 (h:HP) (j:Nat) (q:OB) (w:World) (H:h.Is w) (hl:h.l.length<=65536) (hj:h.l[j]? =some q) (ht:q.ot=81):Calls prog 61 #[.pointer (some ⟨h.b,0,none⟩), .int .i64 ((j:Int)+1)] w fun e w'=>e= .returned (.tuple #[q.ov, .int .i64 0])/\w'=w:=by
 have HA:=class_h h j q w H hl hj
 have HB:=own88 h j q w H hl hj
 rw[ht] at HB
 generalize q.ov=v at *
 generalize q.c=c at *
 clear H hj ht
 go_enter func61,ntmps61
 go_wp2_with fail
 refine HA.mono ?_
 rintro _ _ ⟨rfl,rfl⟩
 go_wp2_with fail
 refine HB.mono ?_
 rintro _ _ ⟨rfl,rfl⟩
 have HTA:=ta_row v
 go_wp2_with (first|go_skip|((with_reducible show wpList ..);(refine rd rfl (ex_ta rfl rfl) ?_)))
 go_ret2
 exact⟨rfl,rfl⟩
theorem ZaI (k:KK) (hs:k.s.size<4611686018427387904) (w:World):Calls prog 218 #[.string k.s] w fun e w'=>e= .returned (.tuple #[.int .i64 ((ixS k).getD 0:Nat), .bool (ixS k).isSome])/\w'=w:=by
 have HU:=upTo49 k.s 9007199254740991 hs (by omega) w
 rw[show dgV 9007199254740991 (Az k.s)=ixS k from rfl] at HU
 generalize (ixS k).getD 0=m at *
 generalize (ixS k).isSome=y at *
 generalize k.s=s at *
 go_enter func218,ntmps218
 go_wp2_with fail
 refine HU.mono ?_
 rintro _ _ ⟨rfl,rfl⟩
 go_wp2
 go_ret2
 exact⟨rfl,rfl⟩
def Un (h:HP) (v:Value) (u:List Nat) (X:World):Prop:=X.ownsRow 0 103 1 v u.length (u.map Em)/\ ∀b,v.ownBlock=some b->b ∉ h.blocks
def UOk (u:List Nat):Prop:=(∀x∈u,x<65536)/\u.length<=1048576
theorem Un.to {h h1:HP} {v:Value} {u:List Nat} {X Y:World} (U:Un h v u X) (A:h.To h1 X Y):Un h1 v u Y:=by
 refine⟨Qu U.1 (fun g hg=>A.fr.block g (World.ownsRow.lt U.1 g hg).2 (U.2 g hg)),fun b hb hm=> ?_⟩
 rcases A.sub b hm with h1|h1
 ·exact U.2 b hb h1
 ·have:=(World.ownsRow.lt U.1 b hb).2
  omega
theorem Un.on {h:HP} {v:Value} {u:List Nat} {X Y:World} (U:Un h v u X) (k:Below X.heap.size X Y):Un h v u Y:=
 ⟨Qu U.1 (fun g hg=>k.block g (World.ownsRow.lt U.1 g hg).2),U.2⟩
theorem ex_ge2 {o:Oper} {a:Act} {w:World} {x y:Operand} {n m:Int} {r:Bool} (ho:o.op= .binOp .geq 2 x y 2) (hx:a.eval x= .int .i64 n) (hc:a.eval y= .int .i64 m) (h:decide (m<=n)=r):(execOp a.eval o).run prog w= .ok (.value (.bool r)) w:=by
 unfold execOp
 simp only[ho,hx,hc]
 simp[go_sem,eqGuard,h]
theorem ex_ad2 {o:Oper} {a:Act} {w:World} {x y:Operand} {n:Nat} (ho:o.op= .binOp .add 2 x y 2) (hx:a.eval x= .int .i64 (n:Nat)) (hc:a.eval y= .int .i64 1) (h:n<=1048576):(execOp a.eval o).run prog w= .ok (.value (.int .i64 ((n+1:Nat):Int))) w:=by
 have e:IntKind.i64.wrap ((n:Int)+1)=((n+1:Nat):Int):=by rw[IntKind.wrap_i64];omega
 unfold execOp
 simp only[ho,hx,hc]
 simp[go_sem,e]
theorem sliceUH (g n cap i:Nat) (hp:i+1<=cap) (w:World):(Instr.sliceAt 81 (.slice (some ⟨g,0,none⟩) n cap) (some (.int .i64 (i:Nat))) (some (.int .i64 ((i+1:Nat):Int))) none).run prog w= .ok (.slice (some ⟨g,i,none⟩) 1 (cap - i)) w:=by
 rw[run_sliceAt_slice (h:=by kernel_rfl),run_slice_lh (ht:=by kernel_rfl) (h0:=by omega) (h1:=by omega) (h2:=by omega)]
 have e:(sizeOf (prog.elem 81)).run prog w= .ok 1 w:=by kernel_rfl
 rw[e]
 have h1: ¬cap=i:=by omega
 have h2:(i+1:Int).toNat - i=1:=by omega
 simp[sliced,Addr.add,Result.andThen,h1,h2]
 exact fun h=>h.symm
theorem ex_slU {o:Oper} {a:Act} {w:World} {x l h:Operand} {g n cap i:Nat} (ho:o.op= .slice 81 x (some l) (some h) none) (hx:a.eval x= .slice (some ⟨g,0,none⟩) n cap) (hl:a.eval l= .int .i64 (i:Nat)) {m:Int} (hh:a.eval h= .int .i64 m) (hm:m=((i+1:Nat):Int)) (hp:i+1<=cap):(execOp a.eval o).run prog w= .ok (.value (.slice (some ⟨g,i,none⟩) 1 (cap - i))) w:=by
 have e:=sliceUH g n cap i hp w
 rw[←hm] at e
 unfold execOp
 simp only[ho,hx,hl,hh,Option.map_some,Option.map_none]
 simp[e]
theorem ex_bUni {o:Oper} {a:Act} {w:World} {x:Operand} {s:ByteArray} (ho:o.op= .build 43 #[(0,x),(3, .const (.int .i64 1)),(4, .const (.int .i64 2)),(5, .const (.int .i64 1))]) (hx:a.eval x= .agg (Do s).cs.toArray):(execOp a.eval o).run prog w= .ok (.value (.agg (DD.cs ⟨Do s,Bh,Bh,1,2,1⟩).toArray)) w:=by
 have e:(Instr.build 43 #[(0, .agg (Do s).cs.toArray),(3, .int .i64 1),(4, .int .i64 2),(5, .int .i64 1)]).run prog w= .ok (.agg (DD.cs ⟨Do s,Bh,Bh,1,2,1⟩).toArray) w:=by kernel_rfl
 unfold execOp
 simp only[ho,List.map_toArray,List.map_cons,List.map_nil,hx]
 simp[e,Act.eval]
theorem one_fit {l:List Nat} (h: ∀x∈l,x<65536) (h1:l.length<=1):Gh (ofS l)=true:=by
 have hv:=(Rv h).1
 have hn:=Rw h
 have hs:(ofS l).size<=1048576:=by
  have e:(Az (ofS l)).length=(ofS l).size:=by simp[Az]
  rw[←e,hn]
  match l,h1 with
  | [],_=>simp[M.ofL,M.row]
  | [x],_=>
   have:M.row [x]= [x]:=by simp[M.row]
   unfold M.ofL
   rw[this]
   simp[M.E]
   repeat' split
   all_goals simp
 unfold Gh
 rw[show M.valid false (Az (ofS l))=true from hv]
 simp[hs]
theorem uniU {u:List Nat} (hu:UOk u) (i:Nat): ∀x∈(u.drop i).take 1,x<65536:=fun x hx=>hu.1 x (List.mem_of_mem_drop (List.mem_of_mem_take hx))
theorem Zb6 {u:List Nat} (hu:UOk u) (i:Nat):Gh (ofS ((u.drop i).take 1))=true:=one_fit (uniU hu i) (by simp;omega)
theorem Zcg {w:World} {g c i:Nat} {u:List Nat} (h:w.ownsRow 0 103 1 (.slice (some ⟨g,0,none⟩) u.length c) u.length (u.map Em)) (hi:i<u.length) (hc:u.length<=c):Reads w (.slice (some ⟨g,i,none⟩) 1 (c - i)) ((u.drop i).take 1):=by
 obtain⟨A', -,h2,h3⟩:=Zc6 (i:=i) (k:=i+1) (Xl h) (by omega) (by omega) hc
 rw[h2 g 0 rfl] at h3
 rw[show i+1 - i=1 by omega,Nat.zero_add] at h3
 exact h3
theorem own_nz {w:World} {v:Value} {u:List Nat} {i:Nat} (h:w.ownsRow 0 103 1 v u.length (u.map Em)) (hi:i<u.length): ∃g c,v= .slice (some ⟨g,0,none⟩) u.length c/\u.length<=c:=by
 rcases h.2 with ⟨_,h0⟩|⟨g,cap,cur,h1,h2,h3,h4,h5⟩
 ·omega
 ·exact⟨g,cap,h1,h4⟩
theorem prop_any (v:Value) (u:List Nat) (k:KK) (w:World) (hO:w.ownsRow 0 103 1 v u.length (u.map Em)) (hu:UOk u) (hks:k.s.size<4611686018427387904) (hT:Lib.Utf8Tabs 0 1 w):Calls prog 159 #[v,k.agg] w fun e w'=>e= .returned (.tuple #[(unD u k).agg, .bool (unB u k)])/\Below w.heap.size w w':=by
 have SS:=Ab (Sy.nil w [])
 have HT:=Ab hT
 clear hT
 have HI:=fun X=>ZaI k hks X
 have hform:=Eg hO
 rcases hi:ixS k with _|i
 ·have e1:unD u k=Al:=by unfold unD ixU;rw[hi]
  have e2:unB u k=false:=by unfold unB ixU;rw[hi];rfl
  rw[e1,e2]
  simp only[hi,Option.getD_none,Option.isSome_none] at HI
  clear hi e1 e2 hO
  obtain⟨A,c,rfl⟩: ∃A c,v= .slice A u.length c:=hform
  rw[Ec,Es]
  go_enter func159,ntmps159
  go_wp2_with (first|go_skip|((with_reducible show wpList ..);first|(refine zB 40 (k.cs) (by rfl) rfl rfl rfl SS ?_;clear SS;intro Xa Ba SS;simp only[nn])|(refine zA 43 (Al.cs) (by rfl) rfl SS ?_;clear SS;intro Xb Bb SS;simp only[nn])|(refine rd rfl (Ad 9 isAgg9 rfl rfl ((Aa SS).hold 0 rfl) rfl) ?_)))
  refine(HI _).mono ?_
  rintro _ _ ⟨rfl,rfl⟩
  go_wp2_with (first|go_skip|((with_reducible show wpList ..);first|(refine rd rfl (Ut rfl) ?_)|(refine zS (Al.cs) 1 43 (by rfl) rfl rfl rfl rfl (Ea _) szD SS rfl ?_;clear SS;intro Xz SS;simp only[nn])))
  refine bodyPost_ret (Lj rwD szD rfl rfl rfl ((Aa SS).hold 1 rfl) rfl) rfl ?_
  exact⟨rfl,(Aa SS).fr.below⟩
 ·by_cases hlt:i<u.length
  ·have e1:unD u k=Zbf u i:=by unfold unD ixU;rw[hi];simp[hlt]
   have e2:unB u k=true:=by unfold unB ixU;rw[hi];simp[hlt]
   rw[e1,e2]
   simp only[hi,Option.getD_some,Option.isSome_some] at HI
   have dg:decide ((u.length:Int)<=(i:Int))=false:=decide_eq_false (by omega)
   clear hi e1 e2
   obtain⟨g,c,rfl,hc⟩:=own_nz hO hlt
   have HR:=Ab (Zcg hO hlt hc)
   have hb:i<=1048576:=by have:=hu.2;omega
   have hc1:i+1<=c:=by omega
   have hS:=Ab (Zb6 hu i)
   have hU:=Ab (uniU hu i)
   have hL:=Ab (show ((u.drop i).take 1).length<=1099511627776 by simp;omega)
   unfold Zbf
   generalize (u.drop i).take 1=t at *
   clear hO hlt hform hu hc
   have HB:=Ab hb
   have HC1:=Ab hc1
   clear hb hc1
   rw[Ec,Es]
   go_enter func159,ntmps159
   go_wp2_with (first|go_skip|((with_reducible show wpList ..);first|(refine zB 40 (k.cs) (by rfl) rfl rfl rfl SS ?_;clear SS;intro Xa Ba SS;simp only[nn])|(refine zA 43 (Al.cs) (by rfl) rfl SS ?_;clear SS;intro Xb Bb SS;simp only[nn])|(refine rd rfl (Ad 9 isAgg9 rfl rfl ((Aa SS).hold 0 rfl) rfl) ?_)))
   refine(HI _).mono ?_
   rintro _ _ ⟨rfl,rfl⟩
   go_wp2_with (first|go_skip|((with_reducible show wpList ..);first|(refine rd rfl (Bu 81 103 underlying81 rfl rfl) ?_)|(refine rd rfl (ex_ge2 rfl rfl rfl dg) ?_)|(refine rd rfl (ex_ad2 rfl rfl rfl (Aa HB)) ?_)|(refine rd rfl (ex_slU rfl rfl rfl rfl rfl (Aa HC1)) ?_)))
   refine(Zbz _ t (Aa hU) (Aa hL) _ ((Aa HR).same (Aa SS).fr.below)).mono ?_
   rintro _ Y1 ⟨z,rfl,hz,hb1⟩
   obtain rfl:=Rx hz
   replace SS:=Ab ((Aa SS).on hb1)
   clear hb1 hz
   go_wp2_with fail
   have HV:=Qt (ofS t) (Aa hS) _ (Ag (Aa HT) (Aa SS).fr.below)
   rw[Dj] at HV
   refine HV.mono ?_
   clear HV
   rintro _ Y2 ⟨rfl,hb2⟩
   replace SS:=Ab ((Aa SS).on hb2)
   clear hb2
   go_wp2_with (first|go_skip|((with_reducible show wpList ..);first|(refine rd rfl (ex_bUni rfl rfl) ?_)|(refine zS (DD.cs ⟨Do (ofS t),Bh,Bh,1,2,1⟩) 1 43 (by rfl) rfl rfl rfl rfl (Ea _) szD SS rfl ?_;clear SS;intro Xz SS;simp only[nn])))
   refine bodyPost_ret (Lj rwD szD rfl rfl rfl ((Aa SS).hold 1 rfl) rfl) rfl ?_
   exact⟨rfl,(Aa SS).fr.below⟩
  ·have e1:unD u k=Al:=by unfold unD ixU;rw[hi];simp[hlt]
   have e2:unB u k=false:=by unfold unB ixU;rw[hi];simp[hlt]
   rw[e1,e2]
   simp only[hi,Option.getD_some,Option.isSome_some] at HI
   have dg:decide ((u.length:Int)<=(i:Int))=true:=decide_eq_true (by omega)
   clear hi e1 e2 hO hlt
   obtain⟨A,c,rfl⟩: ∃A c,v= .slice A u.length c:=hform
   rw[Ec,Es]
   go_enter func159,ntmps159
   go_wp2_with (first|go_skip|((with_reducible show wpList ..);first|(refine zB 40 (k.cs) (by rfl) rfl rfl rfl SS ?_;clear SS;intro Xa Ba SS;simp only[nn])|(refine zA 43 (Al.cs) (by rfl) rfl SS ?_;clear SS;intro Xb Bb SS;simp only[nn])|(refine rd rfl (Ad 9 isAgg9 rfl rfl ((Aa SS).hold 0 rfl) rfl) ?_)))
   refine(HI _).mono ?_
   rintro _ _ ⟨rfl,rfl⟩
   go_wp2_with (first|go_skip|((with_reducible show wpList ..);first|(refine rd rfl (Bu 81 103 underlying81 rfl rfl) ?_)|(refine rd rfl (ex_ge2 rfl rfl rfl dg) ?_)|(refine rd rfl (Ut rfl) ?_)|(refine zS (Al.cs) 1 43 (by rfl) rfl rfl rfl rfl (Ea _) szD SS rfl ?_;clear SS;intro Xz SS;simp only[nn])))
   refine bodyPost_ret (Lj rwD szD rfl rfl rfl ((Aa SS).hold 1 rfl) rfl) rfl ?_
   exact⟨rfl,(Aa SS).fr.below⟩
theorem okK_s {k:KK} (h:goodK k=true):k.s.size<4611686018427387904:=by have:=Nn h;omega
theorem Zbd (h:HP) (j:Nat) (q:OB) (u:List Nat) (k:KK) (w:World) (H:h.Is w) (hl:h.l.length<=65536) (hj:h.l[j]? =some q) (ht:q.ot=81) (U:Un h q.ov u w) (hu:UOk u) (hT:Tabs w) (hg:goodK k=true):Calls prog 217 #[.agg #[], .pointer (some ⟨h.b,0,none⟩), .int .i64 ((j:Int)+1),k.agg] w fun e w'=>e= .returned (.tuple #[(unD u k).agg, .bool (unB u k)])/\Below w.heap.size w w':=by
 have SS:=Ab (Sy.nil w [])
 rw[Ec,Es]
 go_enter func217,ntmps217
 go_wp2_with (first|go_skip|((with_reducible show wpList ..);first|((refine bxE (by rfl) rfl rfl (Aa SS) ?_);intro X0 B0 S0;replace SS:=Ab S0;clear S0;simp only[nn])|(refine zB 40 (k.cs) (by rfl) rfl rfl rfl SS ?_;clear SS;intro Xa Ba SS;simp only[nn])|(refine zA 43 (Al.cs) (by rfl) rfl SS ?_;clear SS;intro Xb Bb SS;simp only[nn])))
 refine(own61 h j q _ (H.on (Aa SS).fr.below) hl hj ht).mono ?_
 rintro _ _ ⟨rfl,rfl⟩
 go_wp2_with (first|go_skip|((with_reducible show wpList ..);first|(refine zL (k.cs) 40 2 1 rwK szK (by rfl) rfl rfl SS rfl rfl rfl ?_;simp only[nn])))
 have HP_:=prop_any q.ov u k _ (U.on (Aa SS).fr.below).1 hu (okK_s hg) (hT.on (Aa SS).fr.below).1
 rw[Ec,Es] at HP_
 refine HP_.mono ?_
 clear HP_
 rintro _ Y1 ⟨rfl,hb1⟩
 replace SS:=Ab ((Aa SS).on hb1)
 clear hb1
 go_wp2_with (first|go_skip|((with_reducible show wpList ..);first|(refine zS ((unD u k).cs) 2 43 (by rfl) rfl rfl rfl rfl (Ea _) szD SS rfl ?_;clear SS;intro Xz SS;simp only[nn])))
 refine bodyPost_ret (Lj rwD szD rfl rfl rfl ((Aa SS).hold 2 rfl) rfl) rfl ?_
 exact⟨rfl,(Aa SS).fr.below⟩
def soD (q:OB) (u:List Nat) (k:KK):DD:=if (q.T.find k).isSome then getD q.T k else unD u k
def soB (q:OB) (u:List Nat) (k:KK):Bool:=(q.T.find k).isSome||unB u k
theorem sown_h (h:HP) (j:Nat) (q:OB) (u:List Nat) (k:KK) (w:World) (H:h.Is w) (hl:h.l.length<=65536) (hj:h.l[j]? =some q) (ht:q.ot=81) (U:Un h q.ov u w) (hu:UOk u) (hT:Tabs w) (hg:goodK k=true):Calls prog 215 #[.agg #[], .pointer (some ⟨h.b,0,none⟩), .int .i64 ((j:Int)+1),k.agg] w fun e w'=>e= .returned (.tuple #[(soD q u k).agg, .bool (soB q u k), .nilIface])/\Below w.heap.size w w':=by
 rcases hf:(q.T.find k).isSome with _|_
 ·have SS:=Ab (Sy.nil w [])
  have HO:=fun X (hX:h.Is X)=>Zch h j q k X hX hl hj (Kj hg)
  simp only[hf] at HO
  have e1:soD q u k=unD u k:=by unfold soD;rw[hf];rfl
  have e2:soB q u k=unB u k:=by unfold soB;rw[hf];rfl
  rw[e1,e2]
  clear e1 e2 hf
  have HU:=fun X (hX:Below w.heap.size w X)=>Zbd h j q u k X (H.on hX) hl hj ht (U.on hX) hu (hT.on hX) hg
  simp only[Ec,Es] at HO HU ⊢
  generalize getD q.T k=G at *
  generalize unD u k=UD at *
  generalize unB u k=UB at *
  go_enter func215,ntmps215
  go_wp2_with (first|go_skip|((with_reducible show wpList ..);first|((refine bxE (by rfl) rfl rfl (Aa SS) ?_);intro X0 B0 S0;replace SS:=Ab S0;clear S0;simp only[nn])|(refine zB 40 (k.cs) (by rfl) rfl rfl rfl SS ?_;clear SS;intro Xa Ba SS;simp only[nn])|(refine zA 43 (Al.cs) (by rfl) rfl SS ?_;clear SS;intro Xb Bb SS;simp only[nn])|(refine zL (k.cs) 40 2 1 rwK szK (by rfl) rfl rfl SS rfl rfl rfl ?_;simp only[nn])|(refine rd rfl (faM rfl rfl ((Aa SS).emp 0 rfl)) ?_)|(refine rd rfl (ldO rfl rfl) ?_)|(refine rd rfl (ldM rfl rfl) ?_)))
  refine(HO _ (H.on (Aa SS).fr.below)).mono ?_
  rintro _ Y1 ⟨rfl,hb1⟩
  replace SS:=Ab ((Aa SS).on hb1)
  clear hb1
  go_wp2_with (first|go_skip|((with_reducible show wpList ..);first|(refine zA 43 (Al.cs) (by rfl) rfl SS ?_;clear SS;intro Xc Bc SS;simp only[nn])|(refine zS (G.cs) 3 43 (by rfl) rfl rfl rfl rfl (Ea _) szD SS rfl ?_;clear SS;intro Xd SS;simp only[nn])|(refine zL (k.cs) 40 2 1 rwK szK (by rfl) rfl rfl SS rfl rfl rfl ?_;simp only[nn])|(refine rd rfl (faM rfl rfl ((Aa SS).emp 0 rfl)) ?_)|(refine rd rfl (ldO rfl rfl) ?_)|(refine rd rfl (ldM rfl rfl) ?_)))
  refine(HU _ (Aa SS).fr.below).mono ?_
  rintro _ Y2 ⟨rfl,hb2⟩
  replace SS:=Ab ((Aa SS).on hb2)
  clear hb2
  go_wp2_with (first|go_skip|((with_reducible show wpList ..);first|(refine zS (UD.cs) 3 43 (by rfl) rfl rfl rfl rfl (Ea _) szD SS rfl ?_;clear SS;intro Xf SS;simp only[nn])|(refine zL (UD.cs) 43 18 3 rwD szD (by rfl) rfl rfl SS rfl rfl rfl ?_;simp only[nn])|(refine zS (UD.cs) 2 43 (by rfl) rfl rfl rfl rfl (Ea _) szD SS rfl ?_;clear SS;intro Xe SS;simp only[nn])))
  refine bodyPost_ret (Jk rwD szD rfl rfl rfl rfl ((Aa SS).hold 2 rfl) rfl) rfl ?_
  exact⟨rfl,(Aa SS).fr.below⟩
 ·have SS:=Ab (Sy.nil w [])
  have HO:=fun X (hX:h.Is X)=>Zch h j q k X hX hl hj (Kj hg)
  simp only[hf] at HO
  have e1:soD q u k=getD q.T k:=by unfold soD;rw[hf];rfl
  have e2:soB q u k=true:=by unfold soB;rw[hf];rfl
  rw[e1,e2]
  clear e1 e2 hf
  simp only[Ec,Es] at HO ⊢
  generalize getD q.T k=G at *
  go_enter func215,ntmps215
  go_wp2_with (first|go_skip|((with_reducible show wpList ..);first|((refine bxE (by rfl) rfl rfl (Aa SS) ?_);intro X0 B0 S0;replace SS:=Ab S0;clear S0;simp only[nn])|(refine zB 40 (k.cs) (by rfl) rfl rfl rfl SS ?_;clear SS;intro Xa Ba SS;simp only[nn])|(refine zA 43 (Al.cs) (by rfl) rfl SS ?_;clear SS;intro Xb Bb SS;simp only[nn])|(refine zL (k.cs) 40 2 1 rwK szK (by rfl) rfl rfl SS rfl rfl rfl ?_;simp only[nn])|(refine rd rfl (faM rfl rfl ((Aa SS).emp 0 rfl)) ?_)|(refine rd rfl (ldO rfl rfl) ?_)|(refine rd rfl (ldM rfl rfl) ?_)))
  refine(HO _ (H.on (Aa SS).fr.below)).mono ?_
  rintro _ Y1 ⟨rfl,hb1⟩
  replace SS:=Ab ((Aa SS).on hb1)
  clear hb1
  go_wp2_with (first|go_skip|((with_reducible show wpList ..);first|(refine zA 43 (Al.cs) (by rfl) rfl SS ?_;clear SS;intro Xc Bc SS;simp only[nn])|(refine zS (G.cs) 3 43 (by rfl) rfl rfl rfl rfl (Ea _) szD SS rfl ?_;clear SS;intro Xd SS;simp only[nn])|(refine zL (G.cs) 43 18 3 rwD szD (by rfl) rfl rfl SS rfl rfl rfl ?_;simp only[nn])|(refine zS (G.cs) 2 43 (by rfl) rfl rfl rfl rfl (Ea _) szD SS rfl ?_;clear SS;intro Xe SS;simp only[nn])))
  refine bodyPost_ret (Jk rwD szD rfl rfl rfl rfl ((Aa SS).hold 2 rfl) rfl) rfl ?_
  exact⟨rfl,(Aa SS).fr.below⟩
theorem Zcf (h:HP) (j:Nat) (q:OB) (u:List Nat) (k:KK) (w:World) (H:h.Is w) (hl:h.l.length<=65536) (hj:h.l[j]? =some q) (ht:q.ot=81) (U:Un h q.ov u w) (hu:UOk u) (hT:Tabs w) (hg:goodK k=true):Calls prog 167 #[.pointer (some ⟨h.b,0,none⟩), .int .i64 ((j:Int)+1),k.agg] w fun e w'=>e= .returned (.tuple #[(soD q u k).agg, .bool (soB q u k), .nilIface])/\Below w.heap.size w w':=by
 have SS:=Ab (Sy.nil w [])
 have HC:=fun {X:World} (hX:Below w.heap.size w X)=>sown_h h j q u k X (H.on hX) hl hj ht (U.on hX) hu (hT.on hX) hg
 simp only[Ec,Es] at HC ⊢
 generalize soD q u k=G at *
 generalize soB q u k=GB at *
 go_enter func167,ntmps167
 go_wp2_with (first|go_skip|((with_reducible show wpList ..);first|(refine zB 40 (k.cs) (by rfl) rfl rfl rfl SS ?_;clear SS;intro Xa Ba SS;simp only[nn])|(refine zA 43 (Al.cs) (by rfl) rfl SS ?_;clear SS;intro Xb Bb SS;simp only[nn])))
 have hS:Sy w _ [] [Bf Ba k.cs,Bf Bb Al.cs]:=(Aa SS).drew
 clear SS
 have cu: ∀{X:World} {M:List Ob},Sy w X [] ([Bf Ba k.cs]++M)->Sy w X [] [Bf Ba k.cs]:=fun h=>Sy.left h
 refine wp_region_held_drew (P:=prog) (S:=fun X=>Sy w X [] [Bf Ba k.cs]) (by kernel_rfl) (cu hS) (fun hS0=> ?_)
 refine gp 0 (some 9) (.pointer (some ⟨h.b,0,none⟩)) rfl rfl (cu hS) ?_
 refine gp 1 (some 10) (.int .i64 ((j:Int)+1)) rfl rfl (cu hS) ?_
 refine gp 6 (some 15) (.pointer (some ⟨h.b,0,none⟩)) rfl rfl (cu hS) ?_
 refine gp 7 (some 16) (.int .i64 ((j:Int)+1)) rfl rfl (cu hS) ?_
 refine gq 8 (some 17) (.agg k.cs.toArray) rfl rfl (fun X hX=>Aj (vs:=k.cs) 40 2 rwK szK rfl rfl (hX.hold 0 rfl) rfl rfl) (cu hS) ?_
 refine gr (rs:= [2]) (gcW 2 (some 11) rfl rfl (cu hS) (Lv h j q _ (H.on hS.fr.below) hj hl) ?_ gn)
 refine gp 3 (some 12) (.pointer (some ⟨q.b,0,none⟩)) rfl rfl (cu hS) ?_
 refine gp 4 (some 13) (.pointer (some ⟨q.b,8,none⟩)) rfl rfl (cu hS) ?_
 refine gq 5 (some 14) (.iface 87 (.agg #[])) rfl rfl (fun X hX=>Ad 116 isAgg116 rfl rfl ((H.on hX.fr.below).ob hj).1 rfl) (cu hS) ?_
 refine gr (rs:= [9]) (gcB 9 (some 18) rfl rfl hS (HC hS.fr.below) (fun x=>cu x) ?_ gn)
 intro Y2 hq2
 refine gp 10 (some 19) (.agg G.cs.toArray) rfl rfl (cu hq2) ?_
 refine gp 11 (some 20) (.bool GB) rfl rfl (cu hq2) ?_
 refine gp 12 (some 21) (.nilIface) rfl rfl (cu hq2) ?_
 refine gr (rs:= [13]) (My (vs:=G.cs) (new:=G.cs) 13 1 43 rfl rfl (by kernel_rfl) rfl rfl rfl rfl (Ea _) szD hq2 rfl (by simp[Dh,VV.cs,KK.cs,DD.cs,OB.cs,hcs,Al,Bh]) (by simp[Dh,VV.cs,KK.cs,DD.cs,OB.cs,hcs,Al,Bh]) (fun _ hZ=>cu hZ) ?_ gn)
 intro Y3 hq3
 refine gp 14 (some 7) (.bool GB) rfl rfl (cu hq3) ?_
 refine gp 15 (some 8) (.nilIface) rfl rfl (cu hq3) ?_
 refine wpAnyH_done (by kernel_rfl) ?_ _
 try simp only[nn]
 have SS:=Ab hq3
 go_wp2
 refine bodyPost_ret (Jk rwD szD rfl rfl rfl rfl ((Aa SS).hold 1 rfl) rfl) rfl ?_
 exact⟨rfl,(Aa SS).fr.below⟩
