import Derived.Test.YtfefpbjkbmaicaaGreatDoorRn
set_option linter.all false
namespace Go.Proofs.YtfefpbjkbmaicaaGreatDoor
set_option maxRecDepth 100000
set_option maxHeartbeats 0
section
open Go Go.Proofs Go.Maps Go.RowKit FM Tryz
attribute [local go_sem] Av Ap Dv Du De Au Ao Az Dd Gu Gt
def Lh (w:World) (A:Option Addr) (l:List ByteArray):Prop:= ∀(j:Nat) (s:ByteArray),l[j]? =some s-> ∃b off,A=some ⟨b,off,none⟩/\b<w.heap.size/\w.cell? ⟨b,off+j * 1,none⟩=some (.string s)
theorem ReadsV.fr {w X:World} {A:Option Addr} {l:List VV} (h:ReadsV w A l) (k:Fr w X []):ReadsV X A l:=fun j s hj=>by
 obtain⟨b,off,h1,h2,h3⟩:=h j s hj
 exact⟨b,off,h1,Nat.lt_of_lt_of_le h2 k.size,Rp h3 h2 k⟩
theorem unSt:prog.underlying 23=some (.slice (prog.elem 23)):=by kernel_rfl
theorem idSt (w:World):(sizeOf (prog.elem 23)).run prog w= .ok 1 w:=by kernel_rfl
theorem Sy.popen {w X:World} {E:List Nat} {p:PM} (S:Sy w X E [pmO p]):Sy w X E [Al p.b (pcs p),Ew 0 89 7 p.lv p.l.length (p.l.flatMap PA.cs),Gd KS p.pb p.pn p.pF,Gd KI p.tb p.tn p.tF]:=by
 have H:p.Is X:=S.get 0 rfl
 exact⟨S.fr,Mb p,H.ho,fun o ho b hb=>S.lo _ (List.mem_cons_self ..) b (PM.mem_blocks ho hb),H.dis⟩
theorem Sy.pclose {w X:World} {E:List Nat} {p:PM} {L:List Ob} (S:Sy w X E L) (h:L=p.things):Sy w X E [pmO p]:=by
 subst h
 refine⟨S.fr,fun o ho=>by rw[List.mem_singleton.1 ho];exact Mc p,fun o ho=>by rw[List.mem_singleton.1 ho];exact⟨S.ho,S.dis⟩,fun o ho b hb=> ?_,by simp⟩
 rw[List.mem_singleton.1 ho] at hb
 obtain⟨q,hq,hb⟩:=List.mem_flatMap.1 hb
 exact S.lo q hq b hb
theorem Sy.pset {w X Y:World} {E:List Nat} {p p':PM} (S:Sy w X E [pmO p]) (A:p.To p' X Y):Sy w Y E [pmO p']:=S.set 0 (o:=pmO p) rfl (Mc p') A.is A.fr A.sub
def LJ1 (w:World) (ns:List ByteArray) (Bp i:Nat) (wr:World):Prop:= ∃p:PM,p.b=Bp/\I1 ns i p/\Sy w wr [] [pmO p]
def LJ2 (w:World) (vs:List VV) (ns:List ByteArray) (Bp N n:Nat) (wr:World):Prop:= ∃p:PM,p.b=Bp/\p.l.length=N/\I2 vs ns n p/\Sy w wr [] [pmO p]
theorem fr_of_sy {w X Y:World} {p:PM} (S:Sy w X [] [pmO p]) (k:Fr X Y p.blocks):Fr w Y []:=S.fr.trans k (fun b hb=>(S.lo _ (List.mem_cons_self ..) b hb))
theorem ex_lenL {o:Oper} {a:Act} {w:World} {m:Operand} {V:Value} {A:Option Addr} {n c:Nat} (ho:o.op= .call {callee:= .builtin .len,args:= #[m],argTypes:= #[82]}) (hm:a.eval m=V) (hV:V= .slice A n c):(execOp a.eval o).run prog w= .ok (.value (.int .i64 (n:Nat))) w:=Dj 82 89 underlying82 ho (hm.trans hV)
theorem newPar (B NB:Option Addr) (c nc:Nat) (vs:List VV) (ns:List ByteArray) (w:World) (hRV:ReadsV w B vs) (hRN:Lh w NB ns) (hS: ∀s∈ns,s.size<=1048576) (hvl:vs.length<=1024) (hnl:ns.length<=1024):Calls prog 29 #[.slice B vs.length c, .slice NB ns.length nc] w fun e w'=> ∃p:PM,e= .returned (.pointer (some ⟨p.b,0,none⟩))/\NewPM vs ns p/\p.Is w'/\Below w.heap.size w w'/\ ∀b∈p.blocks,w.heap.size<=b:=by
 have SS:=Ac (Sy.nil w [])
 have HRV:=Ac hRV
 clear hRV
 go_enter func29,ntmps29
 go_wp2_with (first|go_skip|((with_reducible show wpList ..);first|((refine mkM KS 83 (by rfl) rfl (Aa SS) ?_);intro X1 B1 S1;replace SS:=Ac S1;clear S1;simp only[nn])|((refine mkM KI 84 (by rfl) rfl (Aa SS) ?_);intro X2 B2 S2;replace SS:=Ac S2;clear S2;simp only[nn])|(refine rd rfl (ex_bPM rfl rfl rfl) ?_)|((refine zB 86 [.slice none 0 0, .map (some B1), .map (some B2)] (by rfl) rfl rfl rfl SS ?_);clear SS;intro X3 Bp SS;simp only[nn])|(refine rd rfl (Dj 23 9 underlying23 rfl rfl) ?_)))
 have HI0:Hid (LJ1 w ns Bp 0 _):=Ac ⟨(⟨Bp, .slice none 0 0, [],B1,0,fun _=>none,B2,0,fun _=>none⟩:PM),rfl,⟨⟨Nat.le_refl _,(fun m a h=>by cases h),(fun s m h=>by cases h),(fun j s h=>by omega)⟩,Nat.le_refl _,rfl,rfl⟩,Sy.pclose (((Aa SS).add (o:=Ew 0 89 7 (.slice none 0 0) 0 []) (Pg _ _ _ _ _ _) ⟨rfl, .inl ⟨rfl,rfl⟩⟩ (Below.refl _ _) (fun b hb=>by cases hb)).perm (List.perm_append_comm (l₁:= [_,_]) (l₂:= [_,_]))) rfl⟩
 clear SS
 go_loopg [16] ns.length (fun gm s16 wr=> ∃i:Nat,s16= .int .i64 (i:Nat)/\i<=ns.length/\ns.length - i<=gm/\Hid (LJ1 w ns Bp i wr))
 case atStart=>exact⟨0,rfl,by omega,by omega,HI0⟩
 case round=>
  clear HI0
  obtain⟨i,rfl,hil,hgm,HI⟩:=hrel
  by_cases hlt:i<ns.length
  ·have dlt:decide ((i:Int)<(ns.length:Int))=true:=decide_eq_true (by omega)
   have hw1:IntKind.i64.wrap ((i:Int)+1)=(i:Int)+1:=by rw[IntKind.wrap_i64];omega
   obtain⟨s,hs⟩: ∃s,ns[i]? =some s:=⟨_,List.getElem?_eq_getElem hlt⟩
   have hsz:=hS s (List.mem_of_getElem? hs)
   obtain⟨b,off,hA,hb,hcell⟩:=hRN i s hs
   have HC:Hid (∀X:World,Fr w X []->X.cell? ⟨b,off+i * 1,none⟩=some (.string s)):=Ac (fun X k=>by rw[World.cell?_of_block (k.block b hb (by simp))];exact hcell)
   subst hA
   clear hb hcell hil
   obtain⟨p,rfl,hI,hSY⟩:=Aa HI
   have SS:=Ac hSY
   have HI1:=Ac hI
   have hpl:=hI.st.len
   have hpn:=hI.pn
   clear hSY HI hI
   have HLT:=Ac hlt
   have HNI:=Ac (And.intro hlt hs)
   clear hlt hs
   go_wp2_with (first|go_skip|((with_reducible show wpList ..);first|(refine rd rfl (Ds 23 1 i unSt idSt rfl rfl rfl (Aa HLT)) ?_)|(refine rd rfl (Ka 9 isAgg9 rfl rfl (Aa HC _ (Aa SS).fr)) ?_)))
   refine(Zb9 p s _ ((Aa SS).get 0 rfl) hsz (by omega) (by omega) (Nat.lt_of_le_of_lt (Nat.le_trans hpn (Nat.le_trans (Nat.le_of_lt (Aa HLT)) hnl)) (by decide))).mono ?_
   rintro _ Y1 ⟨p',n,rfl,hP,hTo⟩
   obtain⟨a,ha,hpb,hI2⟩:=i1_step (Aa HI1) (Aa HNI).2 hP
   replace SS:=Ac ((Aa SS).pset hTo).popen
   obtain⟨g,c0,hlv⟩:=hTo.is.at ha
   have HLV:=Ac hlv
   have HJ:=Ac ha
   have hjl:=(List.getElem?_eq_some_iff.1 ha).1
   obtain⟨q,hq⟩: ∃q,q=0+n * 7:=⟨_,rfl⟩
   have HQ:=Ac hq
   have HI3:=Ac hI2
   have HPB:=Ac hpb
   rw[←hpb]
   clear hP hTo hlv ha hq hI2 HI1 hpb
   go_wp2_with (first|go_skip|((with_reducible show wpList ..);first|(refine z1 82 isAgg82 0 (by rfl) rfl rfl SS rfl rfl ?_;simp only[nn])|(refine rd rfl (Km q n rfl rfl (Aa HLV) rfl hjl (Aa HQ)) ?_)|((refine stP (l:=p'.l) (x0:=a) (x':=⟨a.n,a.v,i⟩) (j:=n) (p:=6) (q:=q+6) (vs:= [.int .i64 (i:Nat)]) 1 3 (by rfl) rfl rfl rfl rfl (by simp[Value.oneCell']) sz_i (Aa SS) (Aa HLV) rfl rfl (Aa HJ) (by simp) (by simp[Dq,PA.cs,VV.cs]) (by rw[Aa HQ]) ?_);intro X5 S5;replace SS:=Ac S5;clear S5;simp only[nn])))
   have HI4:Hid (LJ1 w ns p.b (i+1) _):=Ac ⟨p'.val n ⟨a.n,a.v,i⟩,Aa HPB,Aa HI3,(Aa SS).pclose (by simp[PM.things,pcs,PM.val])⟩
   clear SS
   rw[Aa HPB]
   go_roundg (ns.length - (i+1))
   case measure=>have:=Aa HLT;omega
   case rel=>exact⟨i+1,by go_num,by have:=Aa HLT;omega,by omega,HI4⟩
  ·obtain rfl:i=ns.length:=by omega
   obtain⟨p,hpB,hI,hSY⟩:=Aa HI
   subst hpB
   have SS:=Ac hSY.popen
   obtain⟨A,c1,hlf⟩:=(hSY.get 0 rfl:p.Is _).form
   have HLF:=Ac hlf
   obtain⟨N,hN⟩: ∃N,N=p.l.length:=⟨_,rfl⟩
   have hNl:N<=1024:=by have:=hI.st.len;omega
   have HI2:Hid (LJ2 w vs ns p.b N 0 _):=Ac ⟨p,rfl,hN.symm,i1_i2 hI,hSY⟩
   have HLF:Hid (p.lv= .slice A N c1):=Ac (by rw[hN];exact hlf)
   clear hlf hlt hil HI hSY hI hN
   go_wp2_with (first|go_skip|((with_reducible show wpList ..);first|(refine z1 82 isAgg82 0 (by rfl) rfl rfl SS rfl rfl ?_;simp only[nn])|(refine rd rfl (ex_lenL rfl rfl (Aa HLF)) ?_)))
   clear SS HLF
   obtain⟨Bp,hBp⟩: ∃Bp,Bp=p.b:=⟨_,rfl⟩
   rw[←hBp] at HI2 ⊢
   clear hBp
   go_loopg [38] N (fun gm s38 wr=> ∃n:Nat,s38= .int .i64 (n:Nat)/\n<=N/\N - n<=gm/\Hid (LJ2 w vs ns Bp N n wr))
   case atStart=>exact⟨0,rfl,by omega,by omega,HI2⟩
   case round=>
    clear HI2
    obtain⟨n,rfl,hil,hgm,HI⟩:=hrel
    by_cases hlt:n<N
    ·have dlt:decide ((n:Int)<(N:Int))=true:=decide_eq_true (by omega)
     have hw1:IntKind.i64.wrap ((n:Int)+1)=(n:Int)+1:=by rw[IntKind.wrap_i64];omega
     obtain⟨p,rfl,hpN,hI,hSY⟩:=Aa HI
     have SS:=Ac hSY
     obtain⟨a,ha⟩: ∃a,p.l[n]? =some a:=⟨_,List.getElem?_eq_getElem (by omega)⟩
     have htn:=hI.tn
     have HLT:=Ac hlt
     clear HI hlt hil
     by_cases hno:vs.length<=a.t
     ·go_wp2_with fail
      refine(begin_no p n a B c vs _ (hSY.get 0 rfl) ha hno).mono ?_
      rintro _ Y1 ⟨rfl,hTo⟩
      have HI4:Hid (LJ2 w vs ns p.b N (n+1) _):=Ac ⟨p.val n ⟨a.n,Ea,a.t⟩,rfl,by show (p.l.set n _).length=N;rw[List.length_set];exact hpN,i2_no hI ha hno,(Aa SS).pset hTo⟩
      clear SS hTo
      go_wp2
      go_roundg (N - (n+1))
      case measure=>have:=Aa HLT;omega
      case rel=>exact⟨n+1,by go_num,by have:=Aa HLT;omega,by omega,HI4⟩
     ·have hlt:a.t<vs.length:=by omega
      obtain⟨v,hv⟩: ∃v,vs[a.t]? =some v:=⟨_,List.getElem?_eq_getElem hlt⟩
      go_wp2_with fail
      refine(Zcx p n a B c vs v _ (hSY.get 0 rfl) ha hlt hv (fun k=>(Aa HRV).fr (fr_of_sy hSY k)) (by omega) (Nat.lt_of_le_of_lt (Nat.le_trans htn (Nat.le_trans (Nat.le_of_lt (Aa HLT)) hNl)) (by decide))).mono ?_
      rintro _ Y1 ⟨rfl,hTo⟩
      have HI4:Hid (LJ2 w vs ns p.b N (n+1) _):=Ac ⟨p.tied n ⟨a.n,v,a.t⟩,rfl,by show (p.l.set n _).length=N;rw[List.length_set];exact hpN,i2_yes hI ha hv,(Aa SS).pset hTo⟩
      clear SS hTo
      go_wp2
      go_roundg (N - (n+1))
      case measure=>have:=Aa HLT;omega
      case rel=>exact⟨n+1,by go_num,by have:=Aa HLT;omega,by omega,HI4⟩
    ·obtain rfl:n=N:=by omega
     clear hlt hil
     go_wp2
     go_ret
     obtain⟨p2,hp2,hN,hI,hSY⟩:=Aa HI
     rw[←hp2]
     exact⟨p2,rfl,⟨hI.st,hI.e,fun m a hm=>hI.d m a (by have:=(List.getElem?_eq_some_iff.1 hm).1;omega) hm⟩,hSY.get 0 rfl,hSY.fr.below,fun b hb=>(hSY.lo _ (List.mem_cons_self ..) b hb).elim (fun h=>by cases h) id⟩
