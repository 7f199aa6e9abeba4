import Derived.Test.YthcmamjpfigdfaaGreatDoorRx
import Derived.Test.YthcmamjpfigdfaaGreatDoorRows
import Derived.OpenShut
import Derived.ChangeArms
import Derived.ChangeSame
import Derived.Deep.Slices
import Derived.Laws.IdiomArrays
set_option linter.all false
namespace Go.Proofs.YthcmamjpfigdfaaGreatDoor
set_option maxRecDepth 100000
set_option maxHeartbeats 0
section
open Go Go.Proofs Go.Maps Go.RowKit FM Tryz
attribute [local go_sem] Am Al Ar Ah Ao Ai Au Dg Df Bh Ak Az
def numV (x:Nat):VV:=⟨4,false,x,⟨#[]⟩,0⟩
def Ek:VV:=numV 4617315517961601024
def ZcT:VV:=numV 4618441417868443648
def nulV:VV:=⟨2,false,0,⟨#[]⟩,0⟩
def Mm (n:Int):VV:=⟨7,false,0,⟨#[]⟩,n⟩
def aK:KK:=⟨⟨#[97]⟩,0⟩
theorem ex_bnum {o:Oper} {a:Act} {w:World} {x0 x1:Operand} (x:Nat) (ho:o.op= .build 40 #[(0,x0),(2,x1)]) (h0:a.eval x0= .int .i64 4) (h1:a.eval x1= .float .f64 x):(execOp a.eval o).run prog w= .ok (.value (.agg (numV x).cs.toArray)) w:=by
 have e:(Instr.build 40 #[(0, .int .i64 4),(2, .float .f64 x)]).run prog w= .ok (.agg (numV x).cs.toArray) w:=by kernel_rfl
 unfold execOp
 simp only[ho,List.map_toArray,List.map_cons,List.map_nil,h0,h1]
 simp[e]
theorem ZfD {o:Oper} {a:Act} {w:World} {x0 x1:Operand} (n:Int) (ho:o.op= .build 40 #[(0,x0),(4,x1)]) (h0:a.eval x0= .int .i64 7) (h1:a.eval x1= .int .i64 n):(execOp a.eval o).run prog w= .ok (.value (.agg (Mm n).cs.toArray)) w:=by
 have e:(Instr.build 40 #[(0, .int .i64 7),(4, .int .i64 n)]).run prog w= .ok (.agg (Mm n).cs.toArray) w:=by kernel_rfl
 unfold execOp
 simp only[ho,List.map_toArray,List.map_cons,List.map_nil,h0,h1]
 simp[e]
theorem ex_bnul {o:Oper} {a:Act} {w:World} {x0:Operand} (ho:o.op= .build 40 #[(0,x0)]) (h0:a.eval x0= .int .i64 2):(execOp a.eval o).run prog w= .ok (.value (.agg nulV.cs.toArray)) w:=by
 have e:(Instr.build 40 #[(0, .int .i64 2)]).run prog w= .ok (.agg nulV.cs.toArray) w:=by kernel_rfl
 unfold execOp
 simp only[ho,List.map_toArray,List.map_cons,List.map_nil,h0]
 simp[e]
theorem Zab {o:Oper} {a:Act} {w:World} {x0:Operand} (ho:o.op= .build 37 #[(0,x0)]) (h0:a.eval x0= .string ⟨#[97]⟩):(execOp a.eval o).run prog w= .ok (.value (.agg aK.cs.toArray)) w:=by
 have e:(Instr.build 37 #[(0, .string ⟨#[97]⟩)]).run prog w= .ok (.agg aK.cs.toArray) w:=by kernel_rfl
 unfold execOp
 simp only[ho,List.map_toArray,List.map_cons,List.map_nil,h0]
 simp[e]
theorem ex_nePu {o:Oper} {a:Act} {w:World} {x:Operand} {B:Nat} (ho:o.op= .binOp .eql 30 x (.const (.pointer none)) 30) (hx:a.eval x= .pointer (some ⟨B,0,none⟩)):(execOp a.eval o).run prog w= .ok (.value (.bool false)) w:=by
 unfold execOp
 simp only[ho,hx,show a.eval (.const (.pointer none))= .pointer none from rfl]
 simp[go_sem,eqGuard]
theorem ex_eqNil {o:Oper} {a:Act} {w:World} {x:Operand} (ho:o.op= .binOp .eql 66 x (.const .nilIface) 66) (hx:a.eval x= .nilIface):(execOp a.eval o).run prog w= .ok (.value (.bool true)) w:=by
 unfold execOp
 simp only[ho,hx,show a.eval (.const .nilIface)= .nilIface from rfl]
 simp[go_sem,eqGuard]
theorem ZfI:OkK aK:=⟨by decide,by decide⟩
theorem Xl:goodK aK=true:=by rw[ZaF];kernel_rfl
theorem Zfw:FD (Ed Ek):=⟨by decide,by decide,by decide⟩
theorem five_app:Nj true zeroD (Ed Ek)=true:=by kernel_rfl
theorem Zgm:Dl true zeroD (Ed Ek)=Ed Ek:=by kernel_rfl
theorem six_app:Nj true zeroD (Ed ZcT)=true:=by kernel_rfl
theorem Zfv:eqB Ek Ek=true:=by simp[eqB]
theorem code_def:orE [thE 1 2,Da aK,Jt (Ed Ek),Bj 2 [Ek,Av,Av],Ml [Av,Av]]=0:=by
 rw[show Da aK=0 by unfold Da;rw[Xl];rfl]
 kernel_rfl
theorem Zdw (o:Int) (ho:thE o 2=0):orE [thE o 2,Da aK,Bz [Mm 2],Bj 2 [Mm 2]]=0:=by
 rw[show Da aK=0 by unfold Da;rw[Xl];rfl,ho]
 kernel_rfl
theorem code_set:orE [thE 2 2,Da aK,Bz [ZcT,Mm 2],Bj 2 [ZcT,Mm 2]]=0:=by
 rw[show Da aK=0 by unfold Da;rw[Xl];rfl]
 kernel_rfl
theorem tab_ok {h:HP} (K:h.Ok) (j:Nat) (q:OB) (T':TT):(h.tab j q T').Ok:=⟨by show (h.l.set j _).length<=_;rw[List.length_set];exact K.len,K.f0,K.f1,K.e0,K.e1,K.d1⟩
theorem aw_def (h:HP) (q0:OB) (w:World) (H:h.Is w) (K:h.Ok) (hT:Tabs w) (hl:h.l.length=2) (hj:h.l[0]? =some q0) (hx:q0.x=true) (hp:pr q0.T= []) (hla:q0.T.last=0) (h0:h.fuel≠0) (hd:h.ent≠h.depth):Calls prog 16 #[.pointer (some ⟨h.b,0,none⟩), .int .i64 1,aK.agg,(Ed Ek).agg] w fun e w'=> ∃T':TT,e= .returned (.tuple #[.bool true, .nilIface])/\pr T'= [(aK,Ed Ek)]/\h.To (h.less.tab 0 q0 T') w w':=by
 have hz:getD q0.T aK=zeroD:=by rw[Zb6,hp];rfl
 refine(La h 1 aK (Ed Ek) w H K.len hT Zfw (fun h1 y er=> ∃T':TT,y=true/\er= .nilIface/\h1=h.less.tab 0 q0 T'/\pr T'= [(aK,Ed Ek)]) (fun j q X ho hj2 hc2 TX=> ?_)).mono ?_
 ·obtain rfl:j=0:=by omega
  rw[hj] at hj2
  cases hj2
  refine(def_x h 0 q0 aK (Ed Ek) X TX.is K hj (TX.tabs H hT) ZfI Xl (by rw[hz];exact ZbL) Zfw (by omega) h0 hd).mono ?_
  rintro e Y ⟨h1,y,rfl,⟨hy,hP⟩,T⟩
  rw[hz,hx,five_app] at hy
  subst hy
  rcases hP with ⟨hc, -⟩|⟨-,T',rfl, -,hpr⟩
  ·cases hc
  ·exact⟨_,true, .nilIface,rfl,⟨T',rfl,rfl,rfl,by rw[hpr,hz,hx,hp,Zgm];rfl⟩,T⟩
 ·rintro e Y ⟨h1,y,er,rfl,⟨hn, -⟩|⟨-,T',rfl,rfl,rfl,hpr⟩,T⟩
  ·exact absurd (by rw[hl];exact code_def) hn
  ·exact⟨T',rfl,hpr,T⟩
theorem Zdq {T:TT} {k:KK} (hp:pr T= []):T.find k=none:=by
 have:=Zd2 T k
 rw[hp] at this
 cases hf:T.find k with
 |none=>rfl
 |some r=>rw[hf] at this;cases this
theorem Zen {T:TT} (hp:pr T= [(aK,Ed Ek)]):(T.find aK).isSome=true/\getD T aK=Ed Ek:=by
 refine⟨?_, ?_⟩
 ·rw[←Zd2,hp]
  simp[hasP]
 ·rw[Zb6,hp]
  simp[lkP]
theorem Zdu (h:HP) (o:Int) (j:Nat) (q:OB) (k:KK) (r V:VV) (h2:HP) (w:World) (H:h.Is w) (K:h.Ok) (hT:Tabs w) (ho:o=(j:Int)+1) (hj:h.l[j]? =some q) (hc:orE [thE o h.l.length,Da k,Bz [r],Bj h.l.length [r]]=0) (hC: ∀X,h.To h w X->Calls prog 44 #[.pointer (some ⟨h.b,0,none⟩), .int .i64 ((j:Int)+1),k.agg,r.agg] X fun e w'=>e= .returned (.tuple #[V.agg, .nilIface])/\h.To h2 X w'):Calls prog 17 #[.pointer (some ⟨h.b,0,none⟩), .int .i64 o,k.agg,r.agg] w fun e w'=>e= .returned (.tuple #[V.agg, .nilIface])/\h.To h2 w w':=by
 refine(dorGet h o k r w H K.len hT (fun h1 V1 er=>V1=V/\er= .nilIface/\h1=h2) (fun j2 q2 X ho2 hj2 hc2 TX=> ?_)).mono ?_
 ·obtain rfl:j2=j:=by omega
  refine(hC X TX).mono ?_
  rintro e Y ⟨rfl,T⟩
  exact⟨_,_,_,rfl,⟨rfl,rfl,rfl⟩,T⟩
 ·rintro e Y ⟨h1,V1,er,rfl,⟨hn, -⟩|⟨-,rfl,rfl,rfl⟩,T⟩
  ·exact absurd hc hn
  ·exact⟨rfl,T⟩
theorem aw_get2 (h:HP) (q q2:OB) (w:World) (H:h.Is w) (K:h.Ok) (hT:Tabs w) (hl:h.l.length=2) (hj:h.l[1]? =some q) (hi:h.l[0]? =some q2) (hn:pr q.T= []) (hp:q.p=Mm 1) (hs:pr q2.T= [(aK,Ed Ek)]) (hf:2<=h.fuel) (hd:h.ent+2<=h.depth):Calls prog 17 #[.pointer (some ⟨h.b,0,none⟩), .int .i64 2,aK.agg,(Mm 2).agg] w fun e w'=>e= .returned (.tuple #[Ek.agg, .nilIface])/\h.To h.less.less w w':=by
 obtain⟨e1,e2⟩:=Zen hs
 refine Zdu h 2 1 q aK (Mm 2) Ek _ w H K hT rfl hj (by rw[hl];exact Zdw 2 (by decide)) (fun X TX=> ?_)
 have HC:=get_two h 1 0 q q2 aK (Mm 2) X TX.is K hj hi ZfI (Zdq hn) (by rw[hp];rfl) (by rw[hp];rfl) e1 (by rw[e2];decide) hf hd
 rw[e2] at HC
 exact HC
theorem aw_get1 (h:HP) (q2:OB) (w:World) (H:h.Is w) (K:h.Ok) (hT:Tabs w) (hl:h.l.length=2) (hi:h.l[0]? =some q2) (hs:pr q2.T= [(aK,Ed Ek)]) (hf:h.fuel≠0) (hd:h.ent≠h.depth):Calls prog 17 #[.pointer (some ⟨h.b,0,none⟩), .int .i64 1,aK.agg,(Mm 2).agg] w fun e w'=>e= .returned (.tuple #[Ek.agg, .nilIface])/\h.To h.less w w':=by
 obtain⟨e1,e2⟩:=Zen hs
 refine Zdu h 1 0 q2 aK (Mm 2) Ek _ w H K hT rfl hi (by rw[hl];exact Zdw 1 (by decide)) (fun X TX=> ?_)
 have HC:=Zfu h 0 q2 aK (Mm 2) X TX.is K hi ZfI e1 (by rw[e2];decide) hf hd
 rw[e2] at HC
 exact HC
theorem aw_set (h:HP) (q q2:OB) (w:World) (H:h.Is w) (K:h.Ok) (hT:Tabs w) (hl:h.l.length=2) (hj:h.l[1]? =some q) (hi:h.l[0]? =some q2) (hn:pr q.T= []) (hx:q.x=true) (hla:q.T.last=0) (hp:q.p=Mm 1) (hs:pr q2.T= [(aK,Ed Ek)]) (hf:4<=h.fuel) (hd:h.ent+3<=h.depth):Calls prog 19 #[.pointer (some ⟨h.b,0,none⟩), .int .i64 2,aK.agg,ZcT.agg,(Mm 2).agg] w fun e w'=> ∃T':TT,e= .returned (.tuple #[.bool true, .nilIface])/\h.To (h.less.less.less.less.tab 1 q T') w w':=by
 obtain⟨e1,e2⟩:=Zen hs
 obtain⟨r0,hr0⟩:=Option.isSome_iff_exists.1 e1
 refine(dorSet h 2 aK ZcT (Mm 2) w H K.len hT (fun h1 y er=> ∃T':TT,y=true/\er= .nilIface/\h1=h.less.less.less.less.tab 1 q T') (fun j q3 X ho hj2 hc2 TX=> ?_)).mono ?_
 ·obtain rfl:j=1:=by omega
  refine(set_two h 1 0 q q2 aK ZcT (Mm 2) X TX.is K hj hi (TX.tabs H hT) ZfI Xl (by decide) (Zdq hn) (by rw[hp];rfl) (by rw[hp];rfl) (by omega) (by rw[hx];exact six_app) rfl rfl r0 hr0 (by rw[e2];rfl) (by rw[e2];decide) hf hd).mono ?_
  rintro e Y ⟨T',rfl,T⟩
  exact⟨_,_,_,rfl,⟨T',rfl,rfl,rfl⟩,T⟩
 ·rintro e Y ⟨h1,y,er,rfl,⟨hn, -⟩|⟨-,T',rfl,rfl,rfl⟩,T⟩
  ·exact absurd (by rw[hl];exact code_set) hn
  ·exact⟨T',rfl,T⟩
theorem awake_h (w:World) (hT:Tabs w) (h6:6<=w.heap.size):Calls prog 5 #[] w fun e w'=>e= .returned (.bool true)/\Below w.heap.size w w':=by
 have SS:=Ab (Sy.nil w [])
 go_enter func5,ntmps5
 go_wp2_with fail
 refine(new_h 5 100 10 _ (Nat.le_trans h6 (Aa SS).fr.size)).mono ?_
 rintro _ Y0 (⟨hb,rfl,hY0⟩|⟨hb,B,rfl,hI,hB,hY0⟩)
 ·exact absurd hb (by decide)
 ·replace SS:=Ab (new_sy (Aa SS) hI hB hY0)
  clear hI hB hY0
  have K0:(Gn B 5 100 10).Ok:=⟨by show 0<=65536;omega,by show (0:Int)<=100;omega,by show (100:Int)<=9223372036854775807;omega,by show (0:Int)<=0;omega,by show (0:Int)<=10;omega,by show (10:Int)<=100000000;omega⟩
  go_wp2_with (first|go_skip|((with_reducible show wpList ..);first|((with_reducible show wpList _ _ _ (Oper.mk _ (Op.binOp _ _ _ _ _) _ _ _ _::_) _ _);(refine rd rfl (ex_nePu rfl rfl) ?_))|((with_reducible show wpList _ _ _ (Oper.mk _ (Op.alloc _) _ _ _ _::_) _ _);(refine zA 40 (Av.cs) (by rfl) rfl SS ?_;clear SS;intro Xa Ba SS;simp only[nn]))|((with_reducible show wpList _ _ _ (Oper.mk _ (Op.store _ _ _) _ _ _ _::_) _ _);(refine zS (Ek.cs) 1 40 (by rfl) rfl rfl rfl rfl (Ea _) szV SS rfl ?_;clear SS;intro Xy SS;simp only[nn]))|((with_reducible show wpList _ _ _ (Oper.mk _ (Op.store _ _ _) _ _ _ _::_) _ _);(refine zS (ZcT.cs) 2 40 (by rfl) rfl rfl rfl rfl (Ea _) szV SS rfl ?_;clear SS;intro Xz SS;simp only[nn]))|((with_reducible show wpList _ _ _ (Oper.mk _ (Op.build _ _) _ _ _ _::_) _ _);(refine rd rfl (ex_bnum _ rfl rfl rfl) ?_))|((with_reducible show wpList _ _ _ (Oper.mk _ (Op.build _ _) _ _ _ _::_) _ _);(refine rd rfl (ex_bnul rfl rfl) ?_))))
  have HC:=Zcd (Gn B 5 100 10) nulV _ ((Aa SS).hp 0 rfl) (hT.fr (Aa SS).fr (by simp)) K0.len
  rw[Bu] at HC
  refine HC.mono ?_
  rintro _ Y1 (⟨rfl,hn, -⟩|⟨-,gv,q0,rfl,hc0,hp0,hx0,hpr0,hla0,T9⟩)
  ·exact absurd (by kernel_rfl) hn
  ·replace SS:=Ab ((Aa SS).heap 0 rfl T9)
   clear T9 HC
   go_wp2_with (first|go_skip|((with_reducible show wpList ..);((with_reducible show wpList _ _ _ (Oper.mk _ (Op.build _ _) _ _ _ _::_) _ _);(refine rd rfl (ZfD _ rfl rfl rfl) ?_))))
   have HC:=Zcd ((Gn B 5 100 10).more gv q0) (Mm 1) _ ((Aa SS).hp 0 rfl) (hT.fr (Aa SS).fr (by simp)) (by show 1<=65536;omega)
   rw[Bu] at HC
   refine HC.mono ?_
   rintro _ Y2 (⟨rfl,hn, -⟩|⟨-,gv1,q1,rfl,hc1,hp1,hx1,hpr1,hla1,T9⟩)
   ·exact absurd (by kernel_rfl) hn
   ·replace SS:=Ab ((Aa SS).heap 0 rfl T9)
    clear T9 HC
    have K2:(((Gn B 5 100 10).more gv q0).more gv1 q1).Ok:=⟨by show 2<=65536;omega,K0.f0,K0.f1,K0.e0,K0.e1,K0.d1⟩
    go_wp2_with (first|go_skip|((with_reducible show wpList ..);first|((with_reducible show wpList _ _ _ (Oper.mk _ (Op.build _ _) _ _ _ _::_) _ _);(refine rd rfl (Zab rfl rfl) ?_))|(refine rd rfl (Zfz Ek rfl rfl rfl rfl rfl) ?_)|((with_reducible show wpList _ _ _ (Oper.mk _ (Op.load _ _) _ _ _ _::_) _ _);(refine zL (Ek.cs) 40 5 1 rwV szV (by rfl) rfl rfl SS rfl rfl rfl ?_;simp only[nn]))))
    have HC:=aw_def (((Gn B 5 100 10).more gv q0).more gv1 q1) q0 _ ((Aa SS).hp 0 rfl) K2 (hT.fr (Aa SS).fr (by simp)) rfl rfl hx0 hpr0 hla0 (by show (100:Int)≠0;omega) (by show (0:Int)≠10;omega)
    rw[Dj,Mi] at HC
    refine HC.mono ?_
    rintro _ Y3 ⟨T1,rfl,hT1,T9⟩
    replace SS:=Ab ((Aa SS).heap 0 rfl T9)
    clear T9 HC
    have K3:((((Gn B 5 100 10).more gv q0).more gv1 q1).less.tab 0 q0 T1).Ok:=tab_ok (Mv K2 (by show (100:Int)≠0;omega)) 0 q0 T1
    go_wp2_with (first|go_skip|((with_reducible show wpList ..);first|((with_reducible show wpList _ _ _ (Oper.mk _ (Op.alloc _) _ _ _ _::_) _ _);(refine zA 40 (Av.cs) (by rfl) rfl SS ?_;clear SS;intro Xa Ba SS;simp only[nn]))|((with_reducible show wpList _ _ _ (Oper.mk _ (Op.store _ _ _) _ _ _ _::_) _ _);(refine zS ((Mm 2).cs) 3 40 (by rfl) rfl rfl rfl rfl (Ea _) szV SS rfl ?_;clear SS;intro Xx SS;simp only[nn]))|((with_reducible show wpList _ _ _ (Oper.mk _ (Op.build _ _) _ _ _ _::_) _ _);(refine rd rfl (ZfD _ rfl rfl rfl) ?_))|((with_reducible show wpList _ _ _ (Oper.mk _ (Op.build _ _) _ _ _ _::_) _ _);(refine rd rfl (Zab rfl rfl) ?_))|((with_reducible show wpList _ _ _ (Oper.mk _ (Op.load _ _) _ _ _ _::_) _ _);(refine zL ((Mm 2).cs) 40 5 3 rwV szV (by rfl) rfl rfl SS rfl rfl rfl ?_;simp only[nn]))))
    have HC:=aw_get2 ((((Gn B 5 100 10).more gv q0).more gv1 q1).less.tab 0 q0 T1) q1 {q0 with T:=T1} _ ((Aa SS).hp 0 rfl) K3 (hT.fr (Aa SS).fr (by simp)) rfl rfl rfl hpr1 hp1 hT1 (by show (2:Int)<=100 - 1;omega) (by show (0+2:Int)<=10;omega)
    rw[Dj,Bu,Bu] at HC
    refine HC.mono ?_
    rintro _ Y4 ⟨rfl,T9⟩
    replace SS:=Ab ((Aa SS).heap 0 rfl T9)
    clear T9 HC
    have K4:((((Gn B 5 100 10).more gv q0).more gv1 q1).less.tab 0 q0 T1).less.less.Ok:=Mv (Mv K3 (by show (100 - 1:Int)≠0;omega)) (by show (100 - 1 - 1:Int)≠0;omega)
    go_wp2_with (first|go_skip|((with_reducible show wpList ..);first|((with_reducible show wpList _ _ _ (Oper.mk _ (Op.alloc _) _ _ _ _::_) _ _);(refine zA 40 (Av.cs) (by rfl) rfl SS ?_;clear SS;intro Xa Ba SS;simp only[nn]))|((with_reducible show wpList _ _ _ (Oper.mk _ (Op.store _ _ _) _ _ _ _::_) _ _);(refine zS (Ek.cs) 4 40 (by rfl) rfl rfl rfl rfl (Ea _) szV SS rfl ?_;clear SS;intro Xw SS;simp only[nn]))))
    refine(Zek ((((Gn B 5 100 10).more gv q0).more gv1 q1).less.tab 0 q0 T1).less.less _ ((Aa SS).hp 0 rfl)).mono ?_
    rintro _ _ ⟨rfl,rfl⟩
    go_wp2_with (first|go_skip|((with_reducible show wpList ..);first|((with_reducible show wpList _ _ _ (Oper.mk _ (Op.build _ _) _ _ _ _::_) _ _);(refine rd rfl (Zab rfl rfl) ?_))|((with_reducible show wpList _ _ _ (Oper.mk _ (Op.load _ _) _ _ _ _::_) _ _);(refine zL (ZcT.cs) 40 5 2 rwV szV (by rfl) rfl rfl SS rfl rfl rfl ?_;simp only[nn]))|((with_reducible show wpList _ _ _ (Oper.mk _ (Op.load _ _) _ _ _ _::_) _ _);(refine zL ((Mm 2).cs) 40 5 3 rwV szV (by rfl) rfl rfl SS rfl rfl rfl ?_;simp only[nn]))))
    have HC:=aw_set ((((Gn B 5 100 10).more gv q0).more gv1 q1).less.tab 0 q0 T1).less.less q1 {q0 with T:=T1} _ ((Aa SS).hp 0 rfl) K4 (hT.fr (Aa SS).fr (by simp)) rfl rfl rfl hpr1 hx1 hla1 hp1 hT1 (by show (4:Int)<=100 - 1 - 1 - 1;omega) (by show (0+3:Int)<=10;omega)
    rw[Dj,Bu,Bu] at HC
    refine HC.mono ?_
    rintro _ Y5 ⟨T2,rfl,T9⟩
    replace SS:=Ab ((Aa SS).heap 0 rfl T9)
    clear T9 HC
    have K5:(((((Gn B 5 100 10).more gv q0).more gv1 q1).less.tab 0 q0 T1).less.less.less.less.less.less.tab 1 q1 T2).Ok:=tab_ok (Mv (Mv (Mv (Mv K4 (by show (100 - 1 - 1 - 1:Int)≠0;omega)) (by show (100 - 1 - 1 - 1 - 1:Int)≠0;omega)) (by show (100 - 1 - 1 - 1 - 1 - 1:Int)≠0;omega)) (by show (100 - 1 - 1 - 1 - 1 - 1 - 1:Int)≠0;omega)) 1 q1 T2
    go_wp2_with (first|go_skip|((with_reducible show wpList ..);first|((with_reducible show wpList _ _ _ (Oper.mk _ (Op.build _ _) _ _ _ _::_) _ _);(refine rd rfl (Zab rfl rfl) ?_))|((with_reducible show wpList _ _ _ (Oper.mk _ (Op.load _ _) _ _ _ _::_) _ _);(refine zL ((Mm 2).cs) 40 5 3 rwV szV (by rfl) rfl rfl SS rfl rfl rfl ?_;simp only[nn]))))
    have HC:=aw_get1 (((((Gn B 5 100 10).more gv q0).more gv1 q1).less.tab 0 q0 T1).less.less.less.less.less.less.tab 1 q1 T2) {q0 with T:=T1} _ ((Aa SS).hp 0 rfl) K5 (hT.fr (Aa SS).fr (by simp)) rfl rfl hT1 (by show (100 - 1 - 1 - 1 - 1 - 1 - 1 - 1:Int)≠0;omega) (by show (0:Int)≠10;omega)
    rw[Dj,Bu,Bu] at HC
    refine HC.mono ?_
    rintro _ Y6 ⟨rfl,T9⟩
    replace SS:=Ab ((Aa SS).heap 0 rfl T9)
    clear T9 HC
    go_wp2_with (first|go_skip|((with_reducible show wpList ..);first|((with_reducible show wpList _ _ _ (Oper.mk _ (Op.alloc _) _ _ _ _::_) _ _);(refine zA 40 (Av.cs) (by rfl) rfl SS ?_;clear SS;intro Xa Ba SS;simp only[nn]))|((with_reducible show wpList _ _ _ (Oper.mk _ (Op.store _ _ _) _ _ _ _::_) _ _);(refine zS (Ek.cs) 5 40 (by rfl) rfl rfl rfl rfl (Ea _) szV SS rfl ?_;clear SS;intro Xv SS;simp only[nn]))|((with_reducible show wpList _ _ _ (Oper.mk _ (Op.binOp _ _ _ _ _) _ _ _ _::_) _ _);(refine rd rfl (Gb rfl rfl rfl rfl) ?_))|((with_reducible show wpList _ _ _ (Oper.mk _ (Op.binOp _ _ _ _ _) _ _ _ _::_) _ _);(refine rd rfl (ex_eqNil rfl rfl) ?_))|((with_reducible show wpList _ _ _ (Oper.mk _ (Op.load _ _) _ _ _ _::_) _ _);(refine zL (Ek.cs) 40 5 4 rwV szV (by rfl) rfl rfl SS rfl rfl rfl ?_;simp only[nn]))|((with_reducible show wpList _ _ _ (Oper.mk _ (Op.load _ _) _ _ _ _::_) _ _);(refine zL (Ek.cs) 40 5 1 rwV szV (by rfl) rfl rfl SS rfl rfl rfl ?_;simp only[nn]))))
    have HE:=fun X=>Ru Ek Ek X
    simp only[Bu,Zfv] at HE
    refine(HE _).mono ?_
    rintro _ Y7 ⟨rfl,hY7⟩
    replace SS:=Ab ((Aa SS).on hY7)
    clear hY7 HE
    go_wp2_with (first|go_skip|((with_reducible show wpList ..);first|((with_reducible show wpList _ _ _ (Oper.mk _ (Op.load _ _) _ _ _ _::_) _ _);(refine zL (Ek.cs) 40 5 5 rwV szV (by rfl) rfl rfl SS rfl rfl rfl ?_;simp only[nn]))|((with_reducible show wpList _ _ _ (Oper.mk _ (Op.load _ _) _ _ _ _::_) _ _);(refine zL (Ek.cs) 40 5 1 rwV szV (by rfl) rfl rfl SS rfl rfl rfl ?_;simp only[nn]))))
    have HE:=fun X=>Ru Ek Ek X
    simp only[Bu,Zfv] at HE
    refine(HE _).mono ?_
    rintro _ Y8 ⟨rfl,hY8⟩
    replace SS:=Ab ((Aa SS).on hY8)
    clear hY8 HE
    go_wp2_with fail
    refine(Zek (((((Gn B 5 100 10).more gv q0).more gv1 q1).less.tab 0 q0 T1).less.less.less.less.less.less.tab 1 q1 T2).less _ ((Aa SS).hp 0 rfl)).mono ?_
    rintro _ _ ⟨rfl,rfl⟩
    rw[show ((((Gn B 5 100 10).more gv q0).more gv1 q1).less.tab 0 q0 T1).less.less.fuel=97 from rfl,show (((((Gn B 5 100 10).more gv q0).more gv1 q1).less.tab 0 q0 T1).less.less.less.less.less.less.tab 1 q1 T2).less.fuel=92 from rfl]
    go_wp2
    go_ret
    exact⟨rfl,(Aa SS).fr.below⟩
end
section
open Go Go.Proofs Go.RowKit Go.WideShapes Go.ChangeShapes Tryz
theorem Gz:prog.cellsOf 3=1:=by kernel_rfl
theorem ZdB:prog.cellsOf 4=1:=by kernel_rfl
theorem ZaY:prog.cellsOf 9=1:=by kernel_rfl
theorem ZgB:prog.cellsOf 38=1:=by kernel_rfl
theorem Yu:prog.cellsOf 41=1:=by kernel_rfl
theorem Jm:prog.cellsOf 40=5:=by kernel_rfl
theorem Yv:prog.cellsOf 37=2:=by kernel_rfl
theorem Yt:prog.cellsOf 43=18:=by kernel_rfl
theorem ZbA:prog.cellsOf 80=20:=by kernel_rfl
theorem ZbC:prog.cellsOf 46=34:=by kernel_rfl
theorem ZbB:prog.cellsOf 56=59:=by kernel_rfl
theorem ZgC:prog.cellsOf 24=4:=by kernel_rfl
theorem ZgD:prog.cellsOf 22=1:=by kernel_rfl
theorem ZbD:prog.cellsOf 44=1:=by kernel_rfl
theorem Zgy:prog.cellsOf 49=1:=by kernel_rfl
theorem ZgA:prog.cellsOf 47=1:=by kernel_rfl
theorem Zgz:prog.cellsOf 48=1:=by kernel_rfl
theorem Zgx:prog.cellsOf 50=1:=by kernel_rfl
theorem Zgw:prog.cellsOf 51=1:=by kernel_rfl
theorem Zgv:prog.cellsOf 52=3:=by kernel_rfl
theorem Zgu:prog.cellsOf 53=1:=by kernel_rfl
theorem Zgt:prog.cellsOf 54=1:=by kernel_rfl
theorem Bq {H:Type}: ∀d:DataW H,1<=Rows.uptoBulk d:=by
 intro d
 cases d with
 |lit l=>cases l<;>simp[Rows.uptoBulk]
 |_=>simp[Rows.uptoBulk]
theorem Ze {H:Type} {d:DataW H}: ∀{l:List (DataW H)},d∈l->Rows.uptoBulk d<=Rows.uptoBulkAll l
 |a::l,h=>by
  rw[Rows.uptoBulkAll]
  rcases List.mem_cons.1 h with rfl|h
  ·omega
  ·have:=Ze h
   omega
theorem Zf {H:Type} {k:Nat}: ∀{l:List (DataW H)},(∀d∈l,k<=Rows.uptoBulk d)->k * l.length<=Rows.uptoBulkAll l
 | [],_=>by simp
 |a::l,h=>by
  rw[Rows.uptoBulkAll,List.length_cons,Nat.mul_succ]
  have h1:=h a (List.mem_cons_self ..)
  have h2:=Zf (fun d hd=>h d (List.mem_cons_of_mem a hd))
  omega
section
variable {H : Type} {enc : TypeId × Value → H} {P : Program} {W : World} {base : Nat} {sp : Nat → Bool} {held : Bool} {m : Nat} {c : Value} {x : DataW H × List MemPlace} {t : TypeId}
theorem ZbE (hu:P.underlying t=some .bool) (h:DataW.trod enc P W base sp held m t [c]=some x): ∃b,c= .bool b:=by
 cases m with
 |zero=>simp[DataW.trod] at h
 |succ m=>
  unfold DataW.trod at h
  rw[hu] at h
  split at h<;>simp_all
theorem ZeG (hu:P.underlying t=some (.float .f64)) (h:DataW.trod enc P W base sp held m t [c]=some x): ∃b,c= .float .f64 b/\b<2^64:=by
 cases m with
 |zero=>simp[DataW.trod] at h
 |succ m=>
  unfold DataW.trod at h
  rw[hu] at h
  split at h<;>simp_all
  rename_i e
  subst e
  have h1:=h.1.2
  unfold Lit.wf at h1
  exact of_decide_eq_true h1
theorem Qb (hu:P.underlying t=some .string) (h:DataW.trod enc P W base sp held m t [c]=some x): ∃s,c= .string s/\s.size<=maxLen:=by
 cases m with
 |zero=>simp[DataW.trod] at h
 |succ m=>
  unfold DataW.trod at h
  rw[hu] at h
  split at h<;>simp_all
theorem Em (hu:P.underlying t=some (.int .i64)) (h:DataW.trod enc P W base sp held m t [c]=some x): ∃n,c= .int .i64 n/\(Lit.int .i64 n).wf=true:=by
 cases m with
 |zero=>simp[DataW.trod] at h
 |succ m=>
  unfold DataW.trod at h
  rw[hu] at h
  split at h<;>simp_all
theorem Jw {e:TypeId} (hu:P.underlying t=some (.slice e)) (h:DataW.trod enc P W base sp held m t [c]=some x):c.oneCell'=true:=by
 rcases Go.Deep.open_slice hu h with ⟨hcs, -⟩|⟨a,len,cap,m',k,D,Pl,hcs, -⟩
 ·obtain rfl:=List.singleton_inj.1 hcs;rfl
 ·obtain rfl:=List.singleton_inj.1 hcs;rfl
end
theorem Zfn {n:Int} (h:(Lit.int .i64 n).wf=true):n<=9223372036854775807:=by
 have h2:(decide (IntKind.i64.min<=n) && decide (n<=IntKind.i64.max))=true:=h
 rw[Bool.and_eq_true] at h2
 exact of_decide_eq_true h2.2
theorem ZcB {H:Type} {enc:TypeId×Value->H} {W:World} {sp:Nat->Bool} {held:Bool} {m:Nat} {x:DataW H×List MemPlace} {t:TypeId} {f0 f1 f2 f3 f4:Field} {cs:List Value} (hs:prog.underlying t=some (.struct #[f0,f1,f2,f3,f4])) (hC:prog.cellsOf t=5) (o0:f0.offset=0) (o1:f1.offset=1) (o2:f2.offset=2) (o3:f3.offset=3) (o4:f4.offset=4) (t0:f0.type=3) (t1:f1.type=4) (t2:f2.type=38) (t3:f3.type=9) (t4:f4.type=3) (h:DataW.trod enc prog W 0 sp held m t cs=some x):(∃u:VV,cs=u.cs/\u.x<2^64)/\6<=Rows.uptoBulk x.1:=by
 obtain⟨xs,n,_,hx,hl,hlen,hf⟩:=DataW.trod_struct hs h
 rw[hC] at hl
 have hlen2:xs.length=5:=hlen
 clear h hlen
 have h0:=hf 0 f0 rfl
 have h1:=hf 1 f1 rfl
 have h2:=hf 2 f2 rfl
 have h3:=hf 3 f3 rfl
 have h4:=hf 4 f4 rfl
 clear hf
 match xs,hlen2 with
 | [y0,y1,y2,y3,y4],_=>
  match cs,hl with
  |c0::c1::c2::c3::c4:: [],_=>
   rw[t0,o0,Gz] at h0
   rw[t1,o1,ZdB] at h1
   rw[t2,o2,ZgB] at h2
   rw[t3,o3,ZaY] at h3
   rw[t4,o4,Gz] at h4
   replace h0:DataW.trod enc prog W 0 sp held n 3 (c0:: [])=some y0:=h0
   replace h1:DataW.trod enc prog W 0 sp held n 4 (c1:: [])=some y1:=h1
   replace h2:DataW.trod enc prog W 0 sp held n 38 (c2:: [])=some y2:=h2
   replace h3:DataW.trod enc prog W 0 sp held n 9 (c3:: [])=some y3:=h3
   replace h4:DataW.trod enc prog W 0 sp held n 3 (c4:: [])=some y4:=h4
   subst hx
   have hbk:Rows.uptoBulk (H:=H) (.agg [y0.1,y1.1,y2.1,y3.1,y4.1])=Rows.uptoBulk y0.1+Rows.uptoBulk y1.1+Rows.uptoBulk y2.1+Rows.uptoBulk y3.1+Rows.uptoBulk y4.1+1:=by simp only[Rows.uptoBulk,Rows.uptoBulkAll];omega
   have p0:=Bq y0.1
   have p1:=Bq y1.1
   have p2:=Bq y2.1
   have p3:=Bq y3.1
   have p4:=Bq y4.1
   simp only[List.map_cons,List.map_nil]
   rw[hbk]
   obtain⟨k,rfl, -⟩:=Em underlying3 h0
   obtain⟨b,rfl⟩:=ZbE underlying4 h1
   obtain⟨f,rfl,wf⟩:=ZeG underlying38 h2
   obtain⟨s,rfl, -⟩:=Qb underlying9 h3
   obtain⟨i,rfl, -⟩:=Em underlying3 h4
   exact⟨⟨⟨k,b,f,s,i⟩,rfl,wf⟩,by omega⟩
theorem Gs {H:Type} {enc:TypeId×Value->H} {W:World} {sp:Nat->Bool} {held:Bool} {m:Nat} {x:DataW H×List MemPlace} {cs:List Value} (h:DataW.trod enc prog W 0 sp held m 40 cs=some x):(∃u:VV,cs=u.cs/\u.x<2^64)/\6<=Rows.uptoBulk x.1:=ZcB underlying40 Jm rfl rfl rfl rfl rfl rfl rfl rfl rfl rfl h
theorem ZeD {H:Type} {enc:TypeId×Value->H} {W:World} {sp:Nat->Bool} {held:Bool} {m:Nat} {x:DataW H×List MemPlace} {t:TypeId} {f0 f1:Field} {cs:List Value} (hs:prog.underlying t=some (.struct #[f0,f1])) (hC:prog.cellsOf t=2) (o0:f0.offset=0) (o1:f1.offset=1) (t0:f0.type=9) (t1:f1.type=3) (h:DataW.trod enc prog W 0 sp held m t cs=some x):(∃u:KK,cs=u.cs/\OkK u)/\3<=Rows.uptoBulk x.1:=by
 obtain⟨xs,n,_,hx,hl,hlen,hf⟩:=DataW.trod_struct hs h
 rw[hC] at hl
 have hlen2:xs.length=2:=hlen
 clear h hlen
 have h0:=hf 0 f0 rfl
 have h1:=hf 1 f1 rfl
 clear hf
 match xs,hlen2 with
 | [y0,y1],_=>
  match cs,hl with
  |c0::c1:: [],_=>
   rw[t0,o0,ZaY] at h0
   rw[t1,o1,Gz] at h1
   replace h0:DataW.trod enc prog W 0 sp held n 9 (c0:: [])=some y0:=h0
   replace h1:DataW.trod enc prog W 0 sp held n 3 (c1:: [])=some y1:=h1
   subst hx
   have hbk:Rows.uptoBulk (H:=H) (.agg [y0.1,y1.1])=Rows.uptoBulk y0.1+Rows.uptoBulk y1.1+1:=by simp only[Rows.uptoBulk,Rows.uptoBulkAll];omega
   have p0:=Bq y0.1
   have p1:=Bq y1.1
   simp only[List.map_cons,List.map_nil]
   rw[hbk]
   obtain⟨s,rfl,hs1⟩:=Qb underlying9 h0
   obtain⟨n,rfl,hn1⟩:=Em underlying3 h1
   exact⟨⟨⟨s,n⟩,rfl,hs1,hn1⟩,by omega⟩
theorem Zbz {H:Type} {enc:TypeId×Value->H} {W:World} {sp:Nat->Bool} {held:Bool} {m:Nat} {x:DataW H×List MemPlace} {cs:List Value} (h:DataW.trod enc prog W 0 sp held m 37 cs=some x):(∃u:KK,cs=u.cs/\OkK u)/\3<=Rows.uptoBulk x.1:=ZeD underlying37 Yv rfl rfl rfl rfl h
theorem ZdA {H:Type} {enc:TypeId×Value->H} {W:World} {sp:Nat->Bool} {held:Bool} {m:Nat} {x:DataW H×List MemPlace} {t:TypeId} {f0 f1 f2 f3 f4 f5:Field} {cs:List Value} (hs:prog.underlying t=some (.struct #[f0,f1,f2,f3,f4,f5])) (hC:prog.cellsOf t=18) (o0:f0.offset=0) (o1:f1.offset=5) (o2:f2.offset=10) (o3:f3.offset=15) (o4:f4.offset=16) (o5:f5.offset=17) (t0:f0.type=40) (t1:f1.type=40) (t2:f2.type=40) (t3:f3.type=41) (t4:f4.type=41) (t5:f5.type=41) (h:DataW.trod enc prog W 0 sp held m t cs=some x):(∃u:DD,cs=u.cs/\FD u)/\22<=Rows.uptoBulk x.1:=by
 obtain⟨xs,n,_,hx,hl,hlen,hf⟩:=DataW.trod_struct hs h
 rw[hC] at hl
 have hlen2:xs.length=6:=hlen
 clear h hlen
 have h0:=hf 0 f0 rfl
 have h1:=hf 1 f1 rfl
 have h2:=hf 2 f2 rfl
 have h3:=hf 3 f3 rfl
 have h4:=hf 4 f4 rfl
 have h5:=hf 5 f5 rfl
 clear hf
 match xs,hlen2 with
 | [y0,y1,y2,y3,y4,y5],_=>
  match cs,hl with
  |c0::c1::c2::c3::c4::c5::c6::c7::c8::c9::c10::c11::c12::c13::c14::c15::c16::c17:: [],_=>
   rw[t0,o0,Jm] at h0
   rw[t1,o1,Jm] at h1
   rw[t2,o2,Jm] at h2
   rw[t3,o3,Yu] at h3
   rw[t4,o4,Yu] at h4
   rw[t5,o5,Yu] at h5
   replace h0:DataW.trod enc prog W 0 sp held n 40 (c0::c1::c2::c3::c4:: [])=some y0:=h0
   replace h1:DataW.trod enc prog W 0 sp held n 40 (c5::c6::c7::c8::c9:: [])=some y1:=h1
   replace h2:DataW.trod enc prog W 0 sp held n 40 (c10::c11::c12::c13::c14:: [])=some y2:=h2
   replace h3:DataW.trod enc prog W 0 sp held n 41 (c15:: [])=some y3:=h3
   replace h4:DataW.trod enc prog W 0 sp held n 41 (c16:: [])=some y4:=h4
   replace h5:DataW.trod enc prog W 0 sp held n 41 (c17:: [])=some y5:=h5
   subst hx
   have hbk:Rows.uptoBulk (H:=H) (.agg [y0.1,y1.1,y2.1,y3.1,y4.1,y5.1])=Rows.uptoBulk y0.1+Rows.uptoBulk y1.1+Rows.uptoBulk y2.1+Rows.uptoBulk y3.1+Rows.uptoBulk y4.1+Rows.uptoBulk y5.1+1:=by simp only[Rows.uptoBulk,Rows.uptoBulkAll];omega
   have p0:=Bq y0.1
   have p1:=Bq y1.1
   have p2:=Bq y2.1
   have p3:=Bq y3.1
   have p4:=Bq y4.1
   have p5:=Bq y5.1
   simp only[List.map_cons,List.map_nil]
   rw[hbk]
   obtain⟨⟨v,q0,x0⟩,bb0⟩:=Gs h0
   simp only[VV.cs,List.cons.injEq] at q0
   obtain⟨rfl,rfl,rfl,rfl,rfl, -⟩:=q0
   obtain⟨⟨g,q1,x1⟩,bb1⟩:=Gs h1
   simp only[VV.cs,List.cons.injEq] at q1
   obtain⟨rfl,rfl,rfl,rfl,rfl, -⟩:=q1
   obtain⟨⟨s,q2,x2⟩,bb2⟩:=Gs h2
   simp only[VV.cs,List.cons.injEq] at q2
   obtain⟨rfl,rfl,rfl,rfl,rfl, -⟩:=q2
   obtain⟨a,rfl, -⟩:=Em underlying41 h3
   obtain⟨e,rfl, -⟩:=Em underlying41 h4
   obtain⟨c,rfl, -⟩:=Em underlying41 h5
   exact⟨⟨⟨v,g,s,a,e,c⟩,rfl,x0,x1,x2⟩,by omega⟩
theorem ZaX {H:Type} {enc:TypeId×Value->H} {W:World} {sp:Nat->Bool} {held:Bool} {m:Nat} {x:DataW H×List MemPlace} {cs:List Value} (h:DataW.trod enc prog W 0 sp held m 43 cs=some x):(∃u:DD,cs=u.cs/\FD u)/\22<=Rows.uptoBulk x.1:=ZdA underlying43 Yt rfl rfl rfl rfl rfl rfl rfl rfl rfl rfl rfl rfl h
theorem Zdz {H:Type} {enc:TypeId×Value->H} {W:World} {sp:Nat->Bool} {held:Bool} {m:Nat} {x:DataW H×List MemPlace} {t:TypeId} {f0 f1:Field} {cs:List Value} (hs:prog.underlying t=some (.struct #[f0,f1])) (hC:prog.cellsOf t=20) (o0:f0.offset=0) (o1:f1.offset=2) (t0:f0.type=37) (t1:f1.type=43) (h:DataW.trod enc prog W 0 sp held m t cs=some x):(∃u:KK×DD,(FD u.2/\OkK u.1)/\cs=prC u)/\26<=Rows.uptoBulk x.1:=by
 obtain⟨xs,n,_,hx,hl,hlen,hf⟩:=DataW.trod_struct hs h
 rw[hC] at hl
 have hlen2:xs.length=2:=hlen
 clear h hlen
 have h0:=hf 0 f0 rfl
 have h1:=hf 1 f1 rfl
 clear hf
 match xs,hlen2 with
 | [y0,y1],_=>
  match cs,hl with
  |c0::c1::c2::c3::c4::c5::c6::c7::c8::c9::c10::c11::c12::c13::c14::c15::c16::c17::c18::c19:: [],_=>
   rw[t0,o0,Yv] at h0
   rw[t1,o1,Yt] at h1
   replace h0:DataW.trod enc prog W 0 sp held n 37 (c0::c1:: [])=some y0:=h0
   replace h1:DataW.trod enc prog W 0 sp held n 43 (c2::c3::c4::c5::c6::c7::c8::c9::c10::c11::c12::c13::c14::c15::c16::c17::c18::c19:: [])=some y1:=h1
   subst hx
   have hbk:Rows.uptoBulk (H:=H) (.agg [y0.1,y1.1])=Rows.uptoBulk y0.1+Rows.uptoBulk y1.1+1:=by simp only[Rows.uptoBulk,Rows.uptoBulkAll];omega
   have p0:=Bq y0.1
   have p1:=Bq y1.1
   simp only[List.map_cons,List.map_nil]
   rw[hbk]
   obtain⟨⟨k,q0,k1⟩,bb0⟩:=Zbz h0
   obtain⟨⟨d,q1,d1⟩,bb1⟩:=ZaX h1
   refine⟨⟨(k,d),⟨d1,k1⟩, ?_⟩,by omega⟩
   show [c0,c1,c2,c3,c4,c5,c6,c7,c8,c9,c10,c11,c12,c13,c14,c15,c16,c17,c18,c19]=k.cs++d.cs
   rw[←q0,←q1]
   rfl
theorem ZeC {H:Type} {enc:TypeId×Value->H} {W:World} {sp:Nat->Bool} {held:Bool} {m:Nat} {x:DataW H×List MemPlace} {cs:List Value} (h:DataW.trod enc prog W 0 sp held m 80 cs=some x):(∃u:KK×DD,(FD u.2/\OkK u.1)/\cs=prC u)/\26<=Rows.uptoBulk x.1:=Zdz underlying80 ZbA rfl rfl rfl rfl h
theorem Zbp (b o i:Nat):(Addr.add ⟨b,o,none⟩ i)=⟨b,o+i,none⟩:=by
 unfold Addr.add
 by_cases h:i=0
 ·subst h;simp
 ·simp[h]
theorem ZfW {w:World} {b o:Nat} {sp:Option Nat} {v:Value} (h:w.cell? ⟨b,o,sp⟩=some v):sp=none/\b<w.heap.size:=by
 constructor
 ·cases sp with
  |none=>rfl
  |some s=>
   simp only[World.cell?] at h
   split at h<;>simp at h
 ·rcases Nat.lt_or_ge b w.heap.size with h'|h'
  ·exact h'
  ·simp[World.cell?,Array.getElem?_eq_none h'] at h
theorem rows_of {α:Type} {f:α->List Value} {k:Nat} (hk: ∀a,(f a).length=k) (h0:0<k) {Pr:α->Prop} {W:World} {a:Addr} {n:Nat} (each: ∀i,i<n-> ∃u:α,Pr u/\W.cells? 0 (a.add (i * k)) k=some (f u)):
  ∃l:List α,l.length=n/\ ∀(j:Nat) (u:α),l[j]? =some u->Pr u/\ ∃b off,a=⟨b,off,none⟩/\b<W.heap.size/\W.rangeAt b (off+j * k) (f u):=by
 have mk: ∀q,q<=n-> ∃l:List α,l.length=q/\ ∀(i:Nat) (u:α),l[i]? =some u->Pr u/\W.cells? 0 (a.add (i * k)) k=some (f u):=by
  intro q
  induction q with
  |zero=>exact fun _=>⟨[],rfl,fun i u hu=>by simp at hu⟩
  |succ q ih=>
   intro hq
   obtain⟨l,hl,hl2⟩:=ih (by omega)
   obtain⟨u,hu2⟩:=each q (by omega)
   refine⟨l++ [u],by simp[hl],fun i u' hu'=> ?_⟩
   rcases Nat.lt_or_ge i l.length with h1|h1
   ·rw[List.getElem?_append_left h1] at hu'
    exact hl2 i u' hu'
   ·rw[List.getElem?_append_right h1] at hu'
    have h3:=(List.getElem?_eq_some_iff.1 hu').1
    have h4:i=q:=by simp at h3;omega
    subst h4
    rw[hl,Nat.sub_self] at hu'
    obtain rfl:u=u':=by simpa using hu'
    exact hu2
 obtain⟨l,hll,hlc⟩:=mk n (Nat.le_refl _)
 refine⟨l,hll,fun j u hu=>⟨(hlc j u hu).1, ?_⟩⟩
 have h1:=(World.cells?_some (hlc j u hu).2).2.2
 obtain⟨b,off,sp⟩:=a
 have hl0:0<l.length:=Nat.lt_of_le_of_lt (Nat.zero_le _) (List.getElem?_eq_some_iff.1 hu).1
 have h00:=(World.cells?_some (hlc 0 l[0] (List.getElem?_eq_getElem hl0)).2).2.2 0 h0
 have e0:(Addr.add (Addr.add ⟨b,off,sp⟩ (0 * k)) 0)=⟨b,off,sp⟩:=by simp[Addr.add]
 have hlen:0<(f l[0]).length:=by rw[hk];exact h0
 rw[e0,List.getElem?_eq_getElem hlen] at h00
 obtain⟨rfl,hb⟩:=ZfW h00
 refine⟨b,off,rfl,hb,fun t v hv=> ?_⟩
 have ht:t<k:=by
  have:=(List.getElem?_eq_some_iff.1 hv).1
  rwa [hk] at this
 have h2:=h1 t ht
 rw[Zbp,Zbp] at h2
 rw[h2]
 exact hv
theorem Zd7 {H:Type} {enc:TypeId×Value->H} {W:World} {sp:Nat->Bool} {held:Bool} {m:Nat} {x:DataW H×List MemPlace} {α:Type} {f:α->List Value} {k kb B:Nat} (hk: ∀a,(f a).length=k) (h0:0<k) {Pr:α->Prop} {t e:TypeId} (ht:prog.underlying t=some (.slice e)) (hce:prog.cellsOf e=k)
  (each: ∀(n:Nat) (cs:List Value) (y:DataW H×List MemPlace),DataW.trod enc prog W 0 sp held n e cs=some y->Rows.uptoBulk y.1<=B->(∃u:α,Pr u/\cs=f u)/\kb<=Rows.uptoBulk y.1)
  {c:Value} (h:DataW.trod enc prog W 0 sp held m t [c]=some x) (hB:Rows.uptoBulk x.1<=B):
  ∃(A:Option Addr) (cap:Nat) (l:List α),c= .slice A l.length cap/\(A=none->l.length=0/\cap=0)/\ReadsG f k W A l/\(∀u∈l,Pr u)/\kb * l.length<=Rows.uptoBulk x.1:=by
 rcases Go.Deep.open_slice ht h with ⟨hcs,hx⟩|⟨a,len,cap,m',k',D,Pl,hcs, -,hl,hm,hme,hx,hel⟩
 ·obtain rfl:=List.singleton_inj.1 hcs
  exact⟨none,0, [],rfl,fun _=>⟨rfl,rfl⟩,fun j u hj=>by simp at hj,fun u hu=>by simp at hu,by simp⟩
 ·obtain rfl:=List.singleton_inj.1 hcs
  subst hx
  have hlm:len<=m':=by rw[hme];split<;>omega
  have hbs:Rows.uptoBulkAll ((List.range len).map D)+1<=Rows.uptoBulk (H:=H) (.slice ((List.range len).map D) ((List.range (m' - len)).map fun j=>D (len+j))):=by
   rw[Rows.uptoBulk]
   omega
  have hB2:Rows.uptoBulk (H:=H) (.slice ((List.range len).map D) ((List.range (m' - len)).map fun j=>D (len+j)))<=B:=hB
  have hbi: ∀i,i<len->Rows.uptoBulk (D i)<=B:=fun i hi=>by
   have:=Ze (List.mem_map_of_mem (f:=D) (List.mem_range.2 hi))
   omega
  rw[hce] at hel
  have each': ∀i,i<len-> ∃u:α,Pr u/\W.cells? 0 (a.add (i * k)) k=some (f u):=fun i hi=>by
   obtain⟨cs',h1,h2⟩:=hel i (by omega)
   obtain⟨⟨u,hu,rfl⟩, -⟩:=each _ _ _ h2 (hbi i hi)
   exact⟨u,hu,h1⟩
  obtain⟨l,hll,hl2⟩:=rows_of hk h0 each'
  refine⟨some a,cap,l,by rw[hll],(fun h=>by cases h),fun j u hj=> ?_,fun u hu=> ?_, ?_⟩
  ·obtain⟨-,b,off,rfl,hb,hr⟩:=hl2 j u hj
   exact⟨b,off,rfl,hb,hr⟩
  ·obtain⟨j,hj⟩:=List.getElem?_of_mem hu
   exact(hl2 j u hj).1
  ·have h9:kb * ((List.range len).map D).length<=Rows.uptoBulkAll ((List.range len).map D):=Zf (fun d hd=>by
    obtain⟨i,hi,rfl⟩:=List.mem_map.1 hd
    obtain⟨cs', -,h2⟩:=hel i (by have:=List.mem_range.1 hi;omega)
    exact(each _ _ _ h2 (hbi i (List.mem_range.1 hi))).2)
   rw[List.length_map,List.length_range] at h9
   rw[hll]
   show kb * len<=Rows.uptoBulk (H:=H) (.slice _ _)
   omega
structure AKR where
 M:Int
 o:Int
 T:Int
 k:KK
 v:VV
 r:VV
 d:DD
 A:Option Addr
 c:Nat
 l:List VV
def AKR.cs (a:AKR):List Value:=Za1 a.M a.o a.T a.k a.v a.r a.d (.slice a.A a.l.length a.c)
def AKR.Ok (a:AKR) (W:World):Prop:=OkK a.k/\a.v.x<2^64/\a.r.x<2^64/\FD a.d/\a.l.length<=1000000/\(∀v∈a.l,v.x<2^64)/\(a.A=none->a.l.length=0/\a.c=0)/\Nk W a.A a.l
theorem ZeE {H:Type} {enc:TypeId×Value->H} {W:World} {sp:Nat->Bool} {held:Bool} {m:Nat} {x:DataW H×List MemPlace} {t:TypeId} {f0 f1 f2 f3 f4 f5 f6 f7:Field} {cs:List Value} (hs:prog.underlying t=some (.struct #[f0,f1,f2,f3,f4,f5,f6,f7])) (hC:prog.cellsOf t=34) (o0:f0.offset=0) (o1:f1.offset=1) (o2:f2.offset=2) (o3:f3.offset=3) (o4:f4.offset=5) (o5:f5.offset=10) (o6:f6.offset=15) (o7:f7.offset=33) (t0:f0.type=3) (t1:f1.type=3) (t2:f2.type=3) (t3:f3.type=37) (t4:f4.type=40) (t5:f5.type=40) (t6:f6.type=43) (t7:f7.type=44) (hB:Rows.uptoBulk x.1<=1048576) (h:DataW.trod enc prog W 0 sp held m t cs=some x): ∃u:AKR,cs=u.cs/\u.Ok W:=by
 obtain⟨xs,n,_,hx,hl,hlen,hf⟩:=DataW.trod_struct hs h
 rw[hC] at hl
 have hlen2:xs.length=8:=hlen
 clear h hlen
 have h0:=hf 0 f0 rfl
 have h1:=hf 1 f1 rfl
 have h2:=hf 2 f2 rfl
 have h3:=hf 3 f3 rfl
 have h4:=hf 4 f4 rfl
 have h5:=hf 5 f5 rfl
 have h6:=hf 6 f6 rfl
 have h7:=hf 7 f7 rfl
 clear hf
 match xs,hlen2 with
 | [y0,y1,y2,y3,y4,y5,y6,y7],_=>
  match cs,hl with
  |c0::c1::c2::c3::c4::c5::c6::c7::c8::c9::c10::c11::c12::c13::c14::c15::c16::c17::c18::c19::c20::c21::c22::c23::c24::c25::c26::c27::c28::c29::c30::c31::c32::c33:: [],_=>
   rw[t0,o0,Gz] at h0
   rw[t1,o1,Gz] at h1
   rw[t2,o2,Gz] at h2
   rw[t3,o3,Yv] at h3
   rw[t4,o4,Jm] at h4
   rw[t5,o5,Jm] at h5
   rw[t6,o6,Yt] at h6
   rw[t7,o7,ZbD] at h7
   replace h0:DataW.trod enc prog W 0 sp held n 3 (c0:: [])=some y0:=h0
   replace h1:DataW.trod enc prog W 0 sp held n 3 (c1:: [])=some y1:=h1
   replace h2:DataW.trod enc prog W 0 sp held n 3 (c2:: [])=some y2:=h2
   replace h3:DataW.trod enc prog W 0 sp held n 37 (c3::c4:: [])=some y3:=h3
   replace h4:DataW.trod enc prog W 0 sp held n 40 (c5::c6::c7::c8::c9:: [])=some y4:=h4
   replace h5:DataW.trod enc prog W 0 sp held n 40 (c10::c11::c12::c13::c14:: [])=some y5:=h5
   replace h6:DataW.trod enc prog W 0 sp held n 43 (c15::c16::c17::c18::c19::c20::c21::c22::c23::c24::c25::c26::c27::c28::c29::c30::c31::c32:: [])=some y6:=h6
   replace h7:DataW.trod enc prog W 0 sp held n 44 (c33:: [])=some y7:=h7
   subst hx
   have hbk:Rows.uptoBulk (H:=H) (.agg [y0.1,y1.1,y2.1,y3.1,y4.1,y5.1,y6.1,y7.1])=Rows.uptoBulk y0.1+Rows.uptoBulk y1.1+Rows.uptoBulk y2.1+Rows.uptoBulk y3.1+Rows.uptoBulk y4.1+Rows.uptoBulk y5.1+Rows.uptoBulk y6.1+Rows.uptoBulk y7.1+1:=by simp only[Rows.uptoBulk,Rows.uptoBulkAll];omega
   have p0:=Bq y0.1
   have p1:=Bq y1.1
   have p2:=Bq y2.1
   have p3:=Bq y3.1
   have p4:=Bq y4.1
   have p5:=Bq y5.1
   have p6:=Bq y6.1
   have p7:=Bq y7.1
   simp only[List.map_cons,List.map_nil] at hB
   rw[hbk] at hB
   obtain⟨M,rfl, -⟩:=Em underlying3 h0
   obtain⟨o,rfl, -⟩:=Em underlying3 h1
   obtain⟨T,rfl, -⟩:=Em underlying3 h2
   obtain⟨⟨k,q3,k1⟩, -⟩:=Zbz h3
   obtain⟨⟨v,q4,x4⟩, -⟩:=Gs h4
   obtain⟨⟨r,q5,x5⟩, -⟩:=Gs h5
   obtain⟨⟨d,q6,d1⟩, -⟩:=ZaX h6
   obtain⟨A,c,l,rfl,hA,hR,hp,hn⟩:=Zd7 (f:=VV.cs) (k:=5) (kb:=6) (Pr:=fun v:VV=>v.x<2^64) (B:=1048576) (fun _=>rfl) (by omega) underlying44 Jm (fun n cs y h hb=>by obtain⟨⟨u,e,hx⟩,h6⟩:=Gs h;exact⟨⟨u,hx,e⟩,h6⟩) h7 (by omega)
   refine⟨⟨M,o,T,k,v,r,d,A,c,l⟩, ?_,k1,x4,x5,d1,by show l.length<=1000000;omega,hp,hA,hR⟩
   show _= [Value.int .i64 M, .int .i64 o, .int .i64 T]++k.cs++v.cs++r.cs++d.cs++ [_]
   rw[←q3,←q4,←q5,←q6]
   rfl
theorem Zgr {H:Type} {enc:TypeId×Value->H} {W:World} {sp:Nat->Bool} {held:Bool} {m:Nat} {x:DataW H×List MemPlace} {cs:List Value} (hB:Rows.uptoBulk x.1<=1048576) (h:DataW.trod enc prog W 0 sp held m 46 cs=some x): ∃u:AKR,cs=u.cs/\u.Ok W:=ZeE underlying46 ZbC rfl rfl rfl rfl rfl rfl rfl rfl rfl rfl rfl rfl rfl rfl rfl rfl hB h
theorem ZeF {H:Type} {enc:TypeId×Value->H} {W:World} {sp:Nat->Bool} {held:Bool} {m:Nat} {x:DataW H×List MemPlace} {t:TypeId} {f0 f1 f2 f3 f4 f5 f6 f7 f8 f9 f10 f11 f12 f13 f14 f15:Field} {cs:List Value} (hs:prog.underlying t=some (.struct #[f0,f1,f2,f3,f4,f5,f6,f7,f8,f9,f10,f11,f12,f13,f14,f15])) (hC:prog.cellsOf t=59) (o0:f0.offset=0) (o1:f1.offset=1) (o2:f2.offset=35) (o3:f3.offset=40) (o4:f4.offset=41) (o5:f5.offset=42) (o6:f6.offset=43) (o7:f7.offset=44) (o8:f8.offset=45) (o9:f9.offset=46) (o10:f10.offset=47) (o11:f11.offset=48) (o12:f12.offset=49) (o13:f13.offset=54) (o14:f14.offset=57) (o15:f15.offset=58) (t0:f0.type=3) (t1:f1.type=46) (t2:f2.type=40) (t3:f3.type=3) (t4:f4.type=47) (t5:f5.type=4) (t6:f6.type=44) (t7:f7.type=48) (t8:f8.type=9) (t9:f9.type=49) (t10:f10.type=50) (t11:f11.type=51) (t12:f12.type=40) (t13:f13.type=52) (t14:f14.type=53) (t15:f15.type=54) (hB:Rows.uptoBulk x.1<=1048576) (h:DataW.trod enc prog W 0 sp held m t cs=some x):(∃u:AT,(u.Ok/\u.ds.length<=43800/\u.Reads W)/\cs=actC u)/\17<=Rows.uptoBulk x.1:=by
 obtain⟨xs,n,_,hx,hl,hlen,hf⟩:=DataW.trod_struct hs h
 rw[hC] at hl
 have hlen2:xs.length=16:=hlen
 clear h hlen
 have h0:=hf 0 f0 rfl
 have h1:=hf 1 f1 rfl
 have h2:=hf 2 f2 rfl
 have h3:=hf 3 f3 rfl
 have h4:=hf 4 f4 rfl
 have h5:=hf 5 f5 rfl
 have h6:=hf 6 f6 rfl
 have h7:=hf 7 f7 rfl
 have h8:=hf 8 f8 rfl
 have h9:=hf 9 f9 rfl
 have h10:=hf 10 f10 rfl
 have h11:=hf 11 f11 rfl
 have h12:=hf 12 f12 rfl
 have h13:=hf 13 f13 rfl
 have h14:=hf 14 f14 rfl
 have h15:=hf 15 f15 rfl
 clear hf
 match xs,hlen2 with
 | [y0,y1,y2,y3,y4,y5,y6,y7,y8,y9,y10,y11,y12,y13,y14,y15],_=>
  match cs,hl with
  |c0::c1::c2::c3::c4::c5::c6::c7::c8::c9::c10::c11::c12::c13::c14::c15::c16::c17::c18::c19::c20::c21::c22::c23::c24::c25::c26::c27::c28::c29::c30::c31::c32::c33::c34::c35::c36::c37::c38::c39::c40::c41::c42::c43::c44::c45::c46::c47::c48::c49::c50::c51::c52::c53::c54::c55::c56::c57::c58:: [],_=>
   rw[t0,o0,Gz] at h0
   rw[t1,o1,ZbC] at h1
   rw[t2,o2,Jm] at h2
   rw[t3,o3,Gz] at h3
   rw[t4,o4,ZgA] at h4
   rw[t5,o5,ZdB] at h5
   rw[t6,o6,ZbD] at h6
   rw[t7,o7,Zgz] at h7
   rw[t8,o8,ZaY] at h8
   rw[t9,o9,Zgy] at h9
   rw[t10,o10,Zgx] at h10
   rw[t11,o11,Zgw] at h11
   rw[t12,o12,Jm] at h12
   rw[t13,o13,Zgv] at h13
   rw[t14,o14,Zgu] at h14
   rw[t15,o15,Zgt] at h15
   replace h0:DataW.trod enc prog W 0 sp held n 3 (c0:: [])=some y0:=h0
   replace h1:DataW.trod enc prog W 0 sp held n 46 (c1::c2::c3::c4::c5::c6::c7::c8::c9::c10::c11::c12::c13::c14::c15::c16::c17::c18::c19::c20::c21::c22::c23::c24::c25::c26::c27::c28::c29::c30::c31::c32::c33::c34:: [])=some y1:=h1
   replace h2:DataW.trod enc prog W 0 sp held n 40 (c35::c36::c37::c38::c39:: [])=some y2:=h2
   replace h3:DataW.trod enc prog W 0 sp held n 3 (c40:: [])=some y3:=h3
   replace h4:DataW.trod enc prog W 0 sp held n 47 (c41:: [])=some y4:=h4
   replace h5:DataW.trod enc prog W 0 sp held n 4 (c42:: [])=some y5:=h5
   replace h6:DataW.trod enc prog W 0 sp held n 44 (c43:: [])=some y6:=h6
   replace h7:DataW.trod enc prog W 0 sp held n 48 (c44:: [])=some y7:=h7
   replace h8:DataW.trod enc prog W 0 sp held n 9 (c45:: [])=some y8:=h8
   replace h9:DataW.trod enc prog W 0 sp held n 49 (c46:: [])=some y9:=h9
   replace h10:DataW.trod enc prog W 0 sp held n 50 (c47:: [])=some y10:=h10
   replace h11:DataW.trod enc prog W 0 sp held n 51 (c48:: [])=some y11:=h11
   replace h12:DataW.trod enc prog W 0 sp held n 40 (c49::c50::c51::c52::c53:: [])=some y12:=h12
   replace h13:DataW.trod enc prog W 0 sp held n 52 (c54::c55::c56:: [])=some y13:=h13
   replace h14:DataW.trod enc prog W 0 sp held n 53 (c57:: [])=some y14:=h14
   replace h15:DataW.trod enc prog W 0 sp held n 54 (c58:: [])=some y15:=h15
   subst hx
   have hbk:Rows.uptoBulk (H:=H) (.agg [y0.1,y1.1,y2.1,y3.1,y4.1,y5.1,y6.1,y7.1,y8.1,y9.1,y10.1,y11.1,y12.1,y13.1,y14.1,y15.1])=Rows.uptoBulk y0.1+Rows.uptoBulk y1.1+Rows.uptoBulk y2.1+Rows.uptoBulk y3.1+Rows.uptoBulk y4.1+Rows.uptoBulk y5.1+Rows.uptoBulk y6.1+Rows.uptoBulk y7.1+Rows.uptoBulk y8.1+Rows.uptoBulk y9.1+Rows.uptoBulk y10.1+Rows.uptoBulk y11.1+Rows.uptoBulk y12.1+Rows.uptoBulk y13.1+Rows.uptoBulk y14.1+Rows.uptoBulk y15.1+1:=by simp only[Rows.uptoBulk,Rows.uptoBulkAll];omega
   have p0:=Bq y0.1
   have p1:=Bq y1.1
   have p2:=Bq y2.1
   have p3:=Bq y3.1
   have p4:=Bq y4.1
   have p5:=Bq y5.1
   have p6:=Bq y6.1
   have p7:=Bq y7.1
   have p8:=Bq y8.1
   have p9:=Bq y9.1
   have p10:=Bq y10.1
   have p11:=Bq y11.1
   have p12:=Bq y12.1
   have p13:=Bq y13.1
   have p14:=Bq y14.1
   have p15:=Bq y15.1
   simp only[List.map_cons,List.map_nil] at hB ⊢
   rw[hbk] at hB ⊢
   obtain⟨W0,rfl, -⟩:=Em underlying3 h0
   obtain⟨a,q1,ak⟩:=Zgr (by omega) h1
   obtain⟨⟨p,q2,x2⟩, -⟩:=Gs h2
   obtain⟨nn,rfl,wn⟩:=Em underlying3 h3
   have z41:=Jw underlying47 h4
   obtain⟨b5,rfl⟩:=ZbE underlying4 h5
   have z43:=Jw underlying44 h6
   have z44:=Jw underlying48 h7
   obtain⟨s8,rfl, -⟩:=Qb underlying9 h8
   obtain⟨DA,Dc,ds,rfl,hDA,hDR,hDp,hDn⟩:=Zd7 (f:=prC) (k:=20) (kb:=26) (Pr:=fun u:KK×DD=>FD u.2/\OkK u.1) (B:=1048576) (fun _=>rfl) (by omega) underlying49 ZbA (fun n cs y h hb=>ZeC h) h9 (by omega)
   have z47:=Jw underlying50 h10
   have z48:=Jw underlying51 h11
   obtain⟨⟨v12,q12,x12⟩, -⟩:=Gs h12
   obtain⟨w0,w1,w2,n9, -,k0,k1,k2⟩:=trod_array3 underlying52 Gz h13
   obtain⟨m0,rfl, -⟩:=Em underlying3 k0
   obtain⟨m1,rfl, -⟩:=Em underlying3 k1
   obtain⟨m2,rfl, -⟩:=Em underlying3 k2
   have z57:=Jw underlying53 h14
   have z58:=Jw underlying54 h15
   simp only[VV.cs,List.cons.injEq] at q12
   obtain⟨rfl,rfl,rfl,rfl,rfl, -⟩:=q12
   obtain⟨t,ht⟩: ∃t:AT,t=⟨W0,a.M,a.o,a.T,a.k,a.v,a.r,a.d,a.A,a.c,a.l,p,nn,DA,Dc,ds,c41, .bool b5,c43,c44, .string s8,c47,c48, .int .i64 v12.k, .bool v12.b, .float .f64 v12.x, .string v12.s, .int .i64 v12.i, .int .i64 m0, .int .i64 m1, .int .i64 m2,c57,c58⟩:=⟨_,rfl⟩
   refine⟨⟨t, ?_, ?_⟩,by omega⟩
   ·subst ht
    obtain⟨a1,a2,a3,a4,a5,a6,a7,a8⟩:=ak
    refine⟨⟨a1,a2,a3,a4,a5,a6,a7,x2,Zfn wn,hDA,fun e he=>(hDp e he).1,fun e he=>(hDp e he).2, ?_⟩,by show ds.length<=43800;omega,a8,hDR⟩
    intro u hu
    simp only[actC,Za1,VV.cs,KK.cs,DD.cs,List.cons_append,List.nil_append,List.mem_cons,List.not_mem_nil,or_false] at hu
    rcases hu with rfl|rfl|rfl|rfl|rfl|rfl|rfl|rfl|rfl|rfl|rfl|rfl|rfl|rfl|rfl|rfl|rfl|rfl|rfl|rfl|rfl|rfl|rfl|rfl|rfl|rfl|rfl|rfl|rfl|rfl|rfl|rfl|rfl|rfl|rfl|rfl|rfl|rfl|rfl|rfl|rfl|rfl|rfl|rfl|rfl|rfl|rfl|rfl|rfl|rfl|rfl|rfl|rfl|rfl|rfl|rfl|rfl|rfl|rfl<;>first|rfl|assumption
   ·rw[ht]
    show _= [Value.int .i64 W0]++a.cs++p.cs++ [_,_,_,_,_,_,_,_,_,_,_,_,_,_,_,_,_,_,_]
    rw[←q1,←q2]
    rfl
theorem Zgs {H:Type} {enc:TypeId×Value->H} {W:World} {sp:Nat->Bool} {held:Bool} {m:Nat} {x:DataW H×List MemPlace} {cs:List Value} (hB:Rows.uptoBulk x.1<=1048576) (h:DataW.trod enc prog W 0 sp held m 56 cs=some x):(∃u:AT,(u.Ok/\u.ds.length<=43800/\u.Reads W)/\cs=actC u)/\17<=Rows.uptoBulk x.1:=ZeF underlying56 ZbB rfl rfl rfl rfl rfl rfl rfl rfl rfl rfl rfl rfl rfl rfl rfl rfl rfl rfl rfl rfl rfl rfl rfl rfl rfl rfl rfl rfl rfl rfl rfl rfl hB h
theorem ZcA {H:Type} {enc:TypeId×Value->H} {W:World} {sp:Nat->Bool} {held:Bool} {m:Nat} {x:DataW H×List MemPlace} {t:TypeId} {f0 f1 f2 f3:Field} {cs:List Value} (hs:prog.underlying t=some (.struct #[f0,f1,f2,f3])) (hC:prog.cellsOf t=4) (o0:f0.offset=0) (o1:f1.offset=1) (o2:f2.offset=2) (o3:f3.offset=3) (t0:f0.type=3) (t1:f1.type=3) (t2:f2.type=3) (t3:f3.type=22) (hB:Rows.uptoBulk x.1<=1048576) (h:DataW.trod enc prog W 0 sp held m t cs=some x): ∃(c f d:Int) (A:Option Addr) (cp:Nat) (ts:List AT),cs=Lp c f d (.slice A ts.length cp)/\f<=9223372036854775807/\ts.length<=1000000/\ReadsG actC 59 W A ts/\ ∀u∈ts,u.Ok/\u.ds.length<=43800/\u.Reads W:=by
 obtain⟨xs,n,_,hx,hl,hlen,hf⟩:=DataW.trod_struct hs h
 rw[hC] at hl
 have hlen2:xs.length=4:=hlen
 clear h hlen
 have h0:=hf 0 f0 rfl
 have h1:=hf 1 f1 rfl
 have h2:=hf 2 f2 rfl
 have h3:=hf 3 f3 rfl
 clear hf
 match xs,hlen2 with
 | [y0,y1,y2,y3],_=>
  match cs,hl with
  |c0::c1::c2::c3:: [],_=>
   rw[t0,o0,Gz] at h0
   rw[t1,o1,Gz] at h1
   rw[t2,o2,Gz] at h2
   rw[t3,o3,ZgD] at h3
   replace h0:DataW.trod enc prog W 0 sp held n 3 (c0:: [])=some y0:=h0
   replace h1:DataW.trod enc prog W 0 sp held n 3 (c1:: [])=some y1:=h1
   replace h2:DataW.trod enc prog W 0 sp held n 3 (c2:: [])=some y2:=h2
   replace h3:DataW.trod enc prog W 0 sp held n 22 (c3:: [])=some y3:=h3
   subst hx
   have hbk:Rows.uptoBulk (H:=H) (.agg [y0.1,y1.1,y2.1,y3.1])=Rows.uptoBulk y0.1+Rows.uptoBulk y1.1+Rows.uptoBulk y2.1+Rows.uptoBulk y3.1+1:=by simp only[Rows.uptoBulk,Rows.uptoBulkAll];omega
   have p0:=Bq y0.1
   have p1:=Bq y1.1
   have p2:=Bq y2.1
   have p3:=Bq y3.1
   simp only[List.map_cons,List.map_nil] at hB
   rw[hbk] at hB
   obtain⟨c,rfl, -⟩:=Em underlying3 h0
   obtain⟨f,rfl,wf⟩:=Em underlying3 h1
   obtain⟨d,rfl, -⟩:=Em underlying3 h2
   obtain⟨A,cp,ts,rfl,hA,hR,hp,hn⟩:=Zd7 (f:=actC) (k:=59) (kb:=17) (Pr:=fun u:AT=>u.Ok/\u.ds.length<=43800/\u.Reads W) (B:=1048576) ZdD (by omega) underlying22 ZbB (fun n cs y h hb=>Zgs hb h) h3 (by omega)
   exact⟨c,f,d,A,cp,ts,rfl,Zfn wf,by omega,hR,hp⟩
theorem Zdy {H:Type} {enc:TypeId×Value->H} {W:World} {sp:Nat->Bool} {held:Bool} {m:Nat} {x:DataW H×List MemPlace} {cs:List Value} (hB:Rows.uptoBulk x.1<=1048576) (h:DataW.trod enc prog W 0 sp held m 24 cs=some x): ∃(c f d:Int) (A:Option Addr) (cp:Nat) (ts:List AT),cs=Lp c f d (.slice A ts.length cp)/\f<=9223372036854775807/\ts.length<=1000000/\ReadsG actC 59 W A ts/\ ∀u∈ts,u.Ok/\u.ds.length<=43800/\u.Reads W:=ZcA underlying24 ZgC rfl rfl rfl rfl rfl rfl rfl rfl hB h
