import Derived.Test.YtfnohipnenkhoaaGreatDoorRo
set_option linter.all false
namespace Go.Proofs.YtfnohipnenkhoaaGreatDoor
set_option maxRecDepth 100000
set_option maxHeartbeats 0
section
open Go Go.Proofs Go.Maps Go.RowKit FM Tryz
attribute [local go_sem] Ao Am Au Ah Ap Ai Ax Dn Dm Bq Aj Bp
theorem Nsy {w X Y:World} {L:List Ob} {B:Nat} {c f d:Int} (S:Sy w X [] L) (h:(Jd B c f d).Is Y) (hB:X.heap.size<=B) (k:Below X.heap.size X Y):Sy w Y [] (L++ [hpO (Jd B c f d)]):=S.add (Zdc _) h k (fun b hb=>by
 have e:b∈(Jd B c f d).blocks:=hb
 rw[Zc9,List.mem_singleton] at e
 omega)
def numV (x:Nat):VV:=⟨4,false,x,⟨#[]⟩,0⟩
def Dw:VV:=numV 4617315517961601024
def Ru:VV:=numV 4618441417868443648
def nulV:VV:=⟨2,false,0,⟨#[]⟩,0⟩
def Lp (n:Int):VV:=⟨7,false,0,⟨#[]⟩,n⟩
def aK:KK:=⟨⟨#[97]⟩,0⟩
theorem Ol {o:Oper} {a:Act} {w:World} {x0 x1:Operand} (x:Nat) (ho:o.op= .build 36 #[(0,x0),(2,x1)]) (h0:a.eval x0= .int .i64 4) (h1:a.eval x1= .float .f64 x):(execOp a.eval o).run prog w= .ok (.value (.agg (numV x).cs.toArray)) w:=by
 have e:(Instr.build 36 #[(0, .int .i64 4),(2, .float .f64 x)]).run prog w= .ok (.agg (numV x).cs.toArray) w:=by kernel_rfl
 unfold execOp
 simp only[ho,List.map_toArray,List.map_cons,List.map_nil,h0,h1]
 simp[e]
theorem Oj {o:Oper} {a:Act} {w:World} {x0 x1:Operand} (n:Int) (ho:o.op= .build 36 #[(0,x0),(4,x1)]) (h0:a.eval x0= .int .i64 7) (h1:a.eval x1= .int .i64 n):(execOp a.eval o).run prog w= .ok (.value (.agg (Lp n).cs.toArray)) w:=by
 have e:(Instr.build 36 #[(0, .int .i64 7),(4, .int .i64 n)]).run prog w= .ok (.agg (Lp n).cs.toArray) w:=by kernel_rfl
 unfold execOp
 simp only[ho,List.map_toArray,List.map_cons,List.map_nil,h0,h1]
 simp[e]
theorem Om {o:Oper} {a:Act} {w:World} {x0:Operand} (ho:o.op= .build 36 #[(0,x0)]) (h0:a.eval x0= .int .i64 2):(execOp a.eval o).run prog w= .ok (.value (.agg nulV.cs.toArray)) w:=by
 have e:(Instr.build 36 #[(0, .int .i64 2)]).run prog w= .ok (.agg nulV.cs.toArray) w:=by kernel_rfl
 unfold execOp
 simp only[ho,List.map_toArray,List.map_cons,List.map_nil,h0]
 simp[e]
theorem On {o:Oper} {a:Act} {w:World} {x0:Operand} (ho:o.op= .build 48 #[(0,x0)]) (h0:a.eval x0= .string ⟨#[97]⟩):(execOp a.eval o).run prog w= .ok (.value (.agg aK.cs.toArray)) w:=by
 have e:(Instr.build 48 #[(0, .string ⟨#[97]⟩)]).run prog w= .ok (.agg aK.cs.toArray) w:=by kernel_rfl
 unfold execOp
 simp only[ho,List.map_toArray,List.map_cons,List.map_nil,h0]
 simp[e]
theorem ex_nePu {o:Oper} {a:Act} {w:World} {x:Operand} {B:Nat} (ho:o.op= .binOp .eql 27 x (.const (.pointer none)) 27) (hx:a.eval x= .pointer (some ⟨B,0,none⟩)):(execOp a.eval o).run prog w= .ok (.value (.bool false)) w:=by
 unfold execOp
 simp only[ho,hx,show a.eval (.const (.pointer none))= .pointer none from rfl]
 simp[go_sem,eqGuard]
theorem ex_eqNil {o:Oper} {a:Act} {w:World} {x:Operand} (ho:o.op= .binOp .eql 72 x (.const .nilIface) 72) (hx:a.eval x= .nilIface):(execOp a.eval o).run prog w= .ok (.value (.bool true)) w:=by
 unfold execOp
 simp only[ho,hx,show a.eval (.const .nilIface)= .nilIface from rfl]
 simp[go_sem,eqGuard]
theorem Zed:OkK aK:=⟨by decide,by decide⟩
theorem Va:goodK aK=true:=by rw[Zcn];kernel_rfl
theorem Zd3:FD (Es Dw):=⟨by decide,by decide,by decide⟩
theorem five_app:Yk true Ak (Es Dw)=true:=by kernel_rfl
theorem ZeO:Eb true Ak (Es Dw)=Es Dw:=by kernel_rfl
theorem six_app:Yk true Ak (Es Ru)=true:=by kernel_rfl
theorem Zd2:eqB Dw Dw=true:=by simp[eqB]
theorem code_def:orE [thE 1 2,Bl aK,Ez (Es Dw),Aw 2 [Dw,Av,Av],Gg [Av,Av]]=0:=by
 rw[show Bl aK=0 by unfold Bl;rw[Va];rfl]
 kernel_rfl
theorem ZcA (o:Int) (ho:thE o 2=0):orE [thE o 2,Bl aK,Bh [Lp 2],Aw 2 [Lp 2]]=0:=by
 rw[show Bl aK=0 by unfold Bl;rw[Va];rfl,ho]
 kernel_rfl
theorem code_set:orE [thE 2 2,Bl aK,Bh [Ru,Lp 2],Aw 2 [Ru,Lp 2]]=0:=by
 rw[show Bl aK=0 by unfold Bl;rw[Va];rfl]
 kernel_rfl
theorem tab_ok {h:HP} (K:h.Ok) (j:Nat) (q:OB) (T':TT):(h.tab j q T').Ok:=⟨by show (h.l.set j _).length<=_;rw[List.length_set];exact K.len,K.f0,K.f1,K.e0,K.e1,K.d1⟩
theorem aw_def (h:HP) (q0:OB) (w:World) (H:h.Is w) (K:h.Ok) (hT:Tabs w) (hl:h.l.length=2) (hj:h.l[0]? =some q0) (hx:q0.x=true) (hp:pr q0.T= []) (hla:q0.T.last=0) (h0:h.fuel≠0) (hd:h.ent≠h.depth):Calls prog 18 #[.pointer (some ⟨h.b,0,none⟩), .int .i64 1,aK.agg,(Es Dw).agg] w fun e w'=> ∃T':TT,e= .returned (.tuple #[.bool true, .nilIface])/\pr T'= [(aK,Es Dw)]/\h.To (h.less.tab 0 q0 T') w w':=by
 have hz:getD q0.T aK=Ak:=by rw[pr_get,hp];rfl
 refine(Lq h 1 aK (Es Dw) w H K.len hT Zd3 (fun h1 y er=> ∃T':TT,y=true/\er= .nilIface/\h1=h.less.tab 0 q0 T'/\pr T'= [(aK,Es Dw)]) (fun j q X ho hj2 hc2 TX=> ?_)).mono ?_
 ·obtain rfl:j=0:=by omega
  rw[hj] at hj2
  cases hj2
  refine(def_x h 0 q0 aK (Es Dw) X TX.is K hj (TX.tabs H hT) Zed Va (by rw[hz];exact Za3) Zd3 (by omega) h0 hd).mono ?_
  rintro e Y ⟨h1,y,rfl,⟨hy,hP⟩,T⟩
  rw[hz,hx,five_app] at hy
  subst hy
  rcases hP with ⟨hc, -⟩|⟨-,T',rfl, -,hpr⟩
  ·cases hc
  ·exact⟨_,true, .nilIface,rfl,⟨T',rfl,rfl,rfl,by rw[hpr,hz,hx,hp,ZeO];rfl⟩,T⟩
 ·rintro e Y ⟨h1,y,er,rfl,⟨hn, -⟩|⟨-,T',rfl,rfl,rfl,hpr⟩,T⟩
  ·exact absurd (by rw[hl];exact code_def) hn
  ·exact⟨T',rfl,hpr,T⟩
theorem Zcs {T:TT} {k:KK} (hp:pr T= []):T.find k=none:=by
 have:=Zc0 T k
 rw[hp] at this
 cases hf:T.find k with
 |none=>rfl
 |some r=>rw[hf] at this;cases this
theorem Zdg {T:TT} (hp:pr T= [(aK,Es Dw)]):(T.find aK).isSome=true/\getD T aK=Es Dw:=by
 refine⟨?_, ?_⟩
 ·rw[←Zc0,hp]
  simp[hasP]
 ·rw[pr_get,hp]
  simp[lkP]
theorem Zcx (h:HP) (o:Int) (j:Nat) (q:OB) (k:KK) (r V:VV) (h2:HP) (w:World) (H:h.Is w) (K:h.Ok) (hT:Tabs w) (ho:o=(j:Int)+1) (hj:h.l[j]? =some q) (hc:orE [thE o h.l.length,Bl k,Bh [r],Aw h.l.length [r]]=0) (hC: ∀X,h.To h w X->Calls prog 36 #[.pointer (some ⟨h.b,0,none⟩), .int .i64 ((j:Int)+1),k.agg,r.agg] X fun e w'=>e= .returned (.tuple #[V.agg, .nilIface])/\h.To h2 X w'):Calls prog 19 #[.pointer (some ⟨h.b,0,none⟩), .int .i64 o,k.agg,r.agg] w fun e w'=>e= .returned (.tuple #[V.agg, .nilIface])/\h.To h2 w w':=by
 refine(dorGet h o k r w H K.len hT (fun h1 V1 er=>V1=V/\er= .nilIface/\h1=h2) (fun j2 q2 X ho2 hj2 hc2 TX=> ?_)).mono ?_
 ·obtain rfl:j2=j:=by omega
  refine(hC X TX).mono ?_
  rintro e Y ⟨rfl,T⟩
  exact⟨_,_,_,rfl,⟨rfl,rfl,rfl⟩,T⟩
 ·rintro e Y ⟨h1,V1,er,rfl,⟨hn, -⟩|⟨-,rfl,rfl,rfl⟩,T⟩
  ·exact absurd hc hn
  ·exact⟨rfl,T⟩
theorem aw_get2 (h:HP) (q q2:OB) (w:World) (H:h.Is w) (K:h.Ok) (hT:Tabs w) (hl:h.l.length=2) (hj:h.l[1]? =some q) (hi:h.l[0]? =some q2) (hn:pr q.T= []) (hp:q.p=Lp 1) (hs:pr q2.T= [(aK,Es Dw)]) (hf:2<=h.fuel) (hd:h.ent+2<=h.depth):Calls prog 19 #[.pointer (some ⟨h.b,0,none⟩), .int .i64 2,aK.agg,(Lp 2).agg] w fun e w'=>e= .returned (.tuple #[Dw.agg, .nilIface])/\h.To h.less.less w w':=by
 obtain⟨e1,e2⟩:=Zdg hs
 refine Zcx h 2 1 q aK (Lp 2) Dw _ w H K hT rfl hj (by rw[hl];exact ZcA 2 (by decide)) (fun X TX=> ?_)
 have HC:=get_two h 1 0 q q2 aK (Lp 2) X TX.is K hj hi Zed (Zcs hn) (by rw[hp];rfl) (by rw[hp];rfl) e1 (by rw[e2];decide) hf hd
 rw[e2] at HC
 exact HC
theorem aw_get1 (h:HP) (q2:OB) (w:World) (H:h.Is w) (K:h.Ok) (hT:Tabs w) (hl:h.l.length=2) (hi:h.l[0]? =some q2) (hs:pr q2.T= [(aK,Es Dw)]) (hf:h.fuel≠0) (hd:h.ent≠h.depth):Calls prog 19 #[.pointer (some ⟨h.b,0,none⟩), .int .i64 1,aK.agg,(Lp 2).agg] w fun e w'=>e= .returned (.tuple #[Dw.agg, .nilIface])/\h.To h.less w w':=by
 obtain⟨e1,e2⟩:=Zdg hs
 refine Zcx h 1 0 q2 aK (Lp 2) Dw _ w H K hT rfl hi (by rw[hl];exact ZcA 1 (by decide)) (fun X TX=> ?_)
 have HC:=Zd1 h 0 q2 aK (Lp 2) X TX.is K hi Zed e1 (by rw[e2];decide) hf hd
 rw[e2] at HC
 exact HC
theorem aw_set (h:HP) (q q2:OB) (w:World) (H:h.Is w) (K:h.Ok) (hT:Tabs w) (hl:h.l.length=2) (hj:h.l[1]? =some q) (hi:h.l[0]? =some q2) (hn:pr q.T= []) (hx:q.x=true) (hla:q.T.last=0) (hp:q.p=Lp 1) (hs:pr q2.T= [(aK,Es Dw)]) (hf:4<=h.fuel) (hd:h.ent+3<=h.depth):Calls prog 20 #[.pointer (some ⟨h.b,0,none⟩), .int .i64 2,aK.agg,Ru.agg,(Lp 2).agg] w fun e w'=> ∃T':TT,e= .returned (.tuple #[.bool true, .nilIface])/\h.To (h.less.less.less.less.tab 1 q T') w w':=by
 obtain⟨e1,e2⟩:=Zdg hs
 obtain⟨r0,hr0⟩:=Option.isSome_iff_exists.1 e1
 refine(dorSet h 2 aK Ru (Lp 2) w H K.len hT (fun h1 y er=> ∃T':TT,y=true/\er= .nilIface/\h1=h.less.less.less.less.tab 1 q T') (fun j q3 X ho hj2 hc2 TX=> ?_)).mono ?_
 ·obtain rfl:j=1:=by omega
  refine(set_two h 1 0 q q2 aK Ru (Lp 2) X TX.is K hj hi (TX.tabs H hT) Zed Va (by decide) (Zcs hn) (by rw[hp];rfl) (by rw[hp];rfl) (by omega) (by rw[hx];exact six_app) rfl rfl r0 hr0 (by rw[e2];rfl) (by rw[e2];decide) hf hd).mono ?_
  rintro e Y ⟨T',rfl,T⟩
  exact⟨_,_,_,rfl,⟨T',rfl,rfl,rfl⟩,T⟩
 ·rintro e Y ⟨h1,y,er,rfl,⟨hn, -⟩|⟨-,T',rfl,rfl,rfl⟩,T⟩
  ·exact absurd (by rw[hl];exact code_set) hn
  ·exact⟨T',rfl,T⟩
theorem awake_h (w:World) (hT:Tabs w) (h6:6<=w.heap.size):Calls prog 5 #[] w fun e w'=>e= .returned (.bool true)/\Below w.heap.size w w':=by
 have SS:=Ab (Sy.nil w [])
 go_enter func5,ntmps5
 go_wp2_with fail
 refine(new_h 5 100 10 _ (Nat.le_trans h6 (Aa SS).fr.size)).mono ?_
 rintro _ Y0 (⟨hb,rfl,hY0⟩|⟨hb,B,rfl,hI,hB,hY0⟩)
 ·exact absurd hb (by decide)
 ·replace SS:=Ab (Nsy (Aa SS) hI hB hY0)
  clear hI hB hY0
  have K0:(Jd B 5 100 10).Ok:=⟨by show 0<=65536;omega,by show (0:Int)<=100;omega,by show (100:Int)<=9223372036854775807;omega,by show (0:Int)<=0;omega,by show (0:Int)<=10;omega,by show (10:Int)<=100000000;omega⟩
  go_wp2_with (first|go_skip|((with_reducible show wpList ..);first|((with_reducible show wpList _ _ _ (Oper.mk _ (Op.binOp _ _ _ _ _) _ _ _ _::_) _ _);(refine rd rfl (ex_nePu rfl rfl) ?_;simp only[nn]))|((with_reducible show wpList _ _ _ (Oper.mk _ (Op.alloc _) _ _ _ _::_) _ _);(refine zA 36 (Av.cs) (by rfl) rfl SS ?_;clear SS;intro Xa Ba SS;simp only[nn]))|((with_reducible show wpList _ _ _ (Oper.mk _ (Op.store _ _ _) _ _ _ _::_) _ _);(refine zS (Dw.cs) 1 36 (by rfl) rfl rfl rfl rfl (Ek _) szV SS rfl ?_;clear SS;intro Xy SS;simp only[nn]))|((with_reducible show wpList _ _ _ (Oper.mk _ (Op.store _ _ _) _ _ _ _::_) _ _);(refine zS (Ru.cs) 2 36 (by rfl) rfl rfl rfl rfl (Ek _) szV SS rfl ?_;clear SS;intro Xz SS;simp only[nn]))|((with_reducible show wpList _ _ _ (Oper.mk _ (Op.build _ _) _ _ _ _::_) _ _);(refine rd rfl (Ol _ rfl rfl rfl) ?_;simp only[nn]))|((with_reducible show wpList _ _ _ (Oper.mk _ (Op.build _ _) _ _ _ _::_) _ _);(refine rd rfl (Oj _ rfl rfl rfl) ?_;simp only[nn]))|((with_reducible show wpList _ _ _ (Oper.mk _ (Op.build _ _) _ _ _ _::_) _ _);(refine rd rfl (Om rfl rfl) ?_;simp only[nn]))|((with_reducible show wpList _ _ _ (Oper.mk _ (Op.build _ _) _ _ _ _::_) _ _);(refine rd rfl (On rfl rfl) ?_;simp only[nn]))|(refine rd rfl (Na Dw rfl rfl rfl rfl rfl) ?_;simp only[nn])))
  have HC:=Zbs (Jd B 5 100 10) nulV _ ((Aa SS).hp 0 rfl) (hT.fr (Aa SS).fr (by simp)) K0.len
  rw[By] at HC
  refine HC.mono ?_
  rintro _ Y1 (⟨rfl,hn, -⟩|⟨-,gv,q0,rfl,hc0,hp0,hx0,hpr0,hla0,T9⟩)
  ·exact absurd (by kernel_rfl) hn
  ·replace SS:=Ab ((Aa SS).heap 0 rfl T9)
   clear T9 HC
   go_wp2_with (first|go_skip|((with_reducible show wpList ..);first|((with_reducible show wpList _ _ _ (Oper.mk _ (Op.build _ _) _ _ _ _::_) _ _);(refine rd rfl (Ol _ rfl rfl rfl) ?_;simp only[nn]))|((with_reducible show wpList _ _ _ (Oper.mk _ (Op.build _ _) _ _ _ _::_) _ _);(refine rd rfl (Oj _ rfl rfl rfl) ?_;simp only[nn]))|((with_reducible show wpList _ _ _ (Oper.mk _ (Op.build _ _) _ _ _ _::_) _ _);(refine rd rfl (Om rfl rfl) ?_;simp only[nn]))|((with_reducible show wpList _ _ _ (Oper.mk _ (Op.build _ _) _ _ _ _::_) _ _);(refine rd rfl (On rfl rfl) ?_;simp only[nn]))|(refine rd rfl (Na Dw rfl rfl rfl rfl rfl) ?_;simp only[nn])))
   have HC:=Zbs ((Jd B 5 100 10).more gv q0) (Lp 1) _ ((Aa SS).hp 0 rfl) (hT.fr (Aa SS).fr (by simp)) (by show 1<=65536;omega)
   rw[By] at HC
   refine HC.mono ?_
   rintro _ Y2 (⟨rfl,hn, -⟩|⟨-,gv1,q1,rfl,hc1,hp1,hx1,hpr1,hla1,T9⟩)
   ·exact absurd (by kernel_rfl) hn
   ·replace SS:=Ab ((Aa SS).heap 0 rfl T9)
    clear T9 HC
    have K2:(((Jd B 5 100 10).more gv q0).more gv1 q1).Ok:=⟨by show 2<=65536;omega,K0.f0,K0.f1,K0.e0,K0.e1,K0.d1⟩
    go_wp2_with (first|go_skip|((with_reducible show wpList ..);first|((with_reducible show wpList _ _ _ (Oper.mk _ (Op.build _ _) _ _ _ _::_) _ _);(refine rd rfl (Ol _ rfl rfl rfl) ?_;simp only[nn]))|((with_reducible show wpList _ _ _ (Oper.mk _ (Op.build _ _) _ _ _ _::_) _ _);(refine rd rfl (Oj _ rfl rfl rfl) ?_;simp only[nn]))|((with_reducible show wpList _ _ _ (Oper.mk _ (Op.build _ _) _ _ _ _::_) _ _);(refine rd rfl (Om rfl rfl) ?_;simp only[nn]))|((with_reducible show wpList _ _ _ (Oper.mk _ (Op.build _ _) _ _ _ _::_) _ _);(refine rd rfl (On rfl rfl) ?_;simp only[nn]))|(refine rd rfl (Na Dw rfl rfl rfl rfl rfl) ?_;simp only[nn])|((with_reducible show wpList _ _ _ (Oper.mk _ (Op.load _ _) _ _ _ _::_) _ _);(refine zL (Dw.cs) 36 5 1 rwV szV (by rfl) rfl rfl SS rfl rfl rfl ?_;simp only[nn]))|((with_reducible show wpList _ _ _ (Oper.mk _ (Op.load _ _) _ _ _ _::_) _ _);(refine zL (Ru.cs) 36 5 2 rwV szV (by rfl) rfl rfl SS rfl rfl rfl ?_;simp only[nn]))|((with_reducible show wpList _ _ _ (Oper.mk _ (Op.load _ _) _ _ _ _::_) _ _);(refine zL ((Lp 2).cs) 36 5 3 rwV szV (by rfl) rfl rfl SS rfl rfl rfl ?_;simp only[nn]))))
    have HC:=aw_def (((Jd B 5 100 10).more gv q0).more gv1 q1) q0 _ ((Aa SS).hp 0 rfl) K2 (hT.fr (Aa SS).fr (by simp)) rfl rfl hx0 hpr0 hla0 (by show (100:Int)≠0;omega) (by show (0:Int)≠10;omega)
    rw[Ds,Mn] at HC
    refine HC.mono ?_
    rintro _ Y3 ⟨T1,rfl,hT1,T9⟩
    replace SS:=Ab ((Aa SS).heap 0 rfl T9)
    clear T9 HC
    have K3:((((Jd B 5 100 10).more gv q0).more gv1 q1).less.tab 0 q0 T1).Ok:=tab_ok (Mx K2 (by show (100:Int)≠0;omega)) 0 q0 T1
    go_wp2_with (first|go_skip|((with_reducible show wpList ..);first|((with_reducible show wpList _ _ _ (Oper.mk _ (Op.alloc _) _ _ _ _::_) _ _);(refine zA 36 (Av.cs) (by rfl) rfl SS ?_;clear SS;intro Xa Ba SS;simp only[nn]))|((with_reducible show wpList _ _ _ (Oper.mk _ (Op.store _ _ _) _ _ _ _::_) _ _);(refine zS ((Lp 2).cs) 3 36 (by rfl) rfl rfl rfl rfl (Ek _) szV SS rfl ?_;clear SS;intro Xx SS;simp only[nn]))|((with_reducible show wpList _ _ _ (Oper.mk _ (Op.build _ _) _ _ _ _::_) _ _);(refine rd rfl (Ol _ rfl rfl rfl) ?_;simp only[nn]))|((with_reducible show wpList _ _ _ (Oper.mk _ (Op.build _ _) _ _ _ _::_) _ _);(refine rd rfl (Oj _ rfl rfl rfl) ?_;simp only[nn]))|((with_reducible show wpList _ _ _ (Oper.mk _ (Op.build _ _) _ _ _ _::_) _ _);(refine rd rfl (Om rfl rfl) ?_;simp only[nn]))|((with_reducible show wpList _ _ _ (Oper.mk _ (Op.build _ _) _ _ _ _::_) _ _);(refine rd rfl (On rfl rfl) ?_;simp only[nn]))|(refine rd rfl (Na Dw rfl rfl rfl rfl rfl) ?_;simp only[nn])|((with_reducible show wpList _ _ _ (Oper.mk _ (Op.load _ _) _ _ _ _::_) _ _);(refine zL (Dw.cs) 36 5 1 rwV szV (by rfl) rfl rfl SS rfl rfl rfl ?_;simp only[nn]))|((with_reducible show wpList _ _ _ (Oper.mk _ (Op.load _ _) _ _ _ _::_) _ _);(refine zL (Ru.cs) 36 5 2 rwV szV (by rfl) rfl rfl SS rfl rfl rfl ?_;simp only[nn]))|((with_reducible show wpList _ _ _ (Oper.mk _ (Op.load _ _) _ _ _ _::_) _ _);(refine zL ((Lp 2).cs) 36 5 3 rwV szV (by rfl) rfl rfl SS rfl rfl rfl ?_;simp only[nn]))))
    have HC:=aw_get2 ((((Jd B 5 100 10).more gv q0).more gv1 q1).less.tab 0 q0 T1) q1 {q0 with T:=T1} _ ((Aa SS).hp 0 rfl) K3 (hT.fr (Aa SS).fr (by simp)) rfl rfl rfl hpr1 hp1 hT1 (by show (2:Int)<=100 - 1;omega) (by show (0+2:Int)<=10;omega)
    rw[Ds,By,By] at HC
    refine HC.mono ?_
    rintro _ Y4 ⟨rfl,T9⟩
    replace SS:=Ab ((Aa SS).heap 0 rfl T9)
    clear T9 HC
    have K4:((((Jd B 5 100 10).more gv q0).more gv1 q1).less.tab 0 q0 T1).less.less.Ok:=Mx (Mx K3 (by show (100 - 1:Int)≠0;omega)) (by show (100 - 1 - 1:Int)≠0;omega)
    go_wp2_with (first|go_skip|((with_reducible show wpList ..);first|((with_reducible show wpList _ _ _ (Oper.mk _ (Op.alloc _) _ _ _ _::_) _ _);(refine zA 36 (Av.cs) (by rfl) rfl SS ?_;clear SS;intro Xa Ba SS;simp only[nn]))|((with_reducible show wpList _ _ _ (Oper.mk _ (Op.store _ _ _) _ _ _ _::_) _ _);(refine zS (Dw.cs) 4 36 (by rfl) rfl rfl rfl rfl (Ek _) szV SS rfl ?_;clear SS;intro Xw SS;simp only[nn]))|((with_reducible show wpList _ _ _ (Oper.mk _ (Op.build _ _) _ _ _ _::_) _ _);(refine rd rfl (Ol _ rfl rfl rfl) ?_;simp only[nn]))|((with_reducible show wpList _ _ _ (Oper.mk _ (Op.build _ _) _ _ _ _::_) _ _);(refine rd rfl (Oj _ rfl rfl rfl) ?_;simp only[nn]))|((with_reducible show wpList _ _ _ (Oper.mk _ (Op.build _ _) _ _ _ _::_) _ _);(refine rd rfl (Om rfl rfl) ?_;simp only[nn]))|((with_reducible show wpList _ _ _ (Oper.mk _ (Op.build _ _) _ _ _ _::_) _ _);(refine rd rfl (On rfl rfl) ?_;simp only[nn]))|(refine rd rfl (Na Dw rfl rfl rfl rfl rfl) ?_;simp only[nn])|((with_reducible show wpList _ _ _ (Oper.mk _ (Op.load _ _) _ _ _ _::_) _ _);(refine zL (Dw.cs) 36 5 1 rwV szV (by rfl) rfl rfl SS rfl rfl rfl ?_;simp only[nn]))|((with_reducible show wpList _ _ _ (Oper.mk _ (Op.load _ _) _ _ _ _::_) _ _);(refine zL (Ru.cs) 36 5 2 rwV szV (by rfl) rfl rfl SS rfl rfl rfl ?_;simp only[nn]))|((with_reducible show wpList _ _ _ (Oper.mk _ (Op.load _ _) _ _ _ _::_) _ _);(refine zL ((Lp 2).cs) 36 5 3 rwV szV (by rfl) rfl rfl SS rfl rfl rfl ?_;simp only[nn]))))
    refine(ZbG ((((Jd B 5 100 10).more gv q0).more gv1 q1).less.tab 0 q0 T1).less.less _ ((Aa SS).hp 0 rfl)).mono ?_
    rintro _ _ ⟨rfl,rfl⟩
    go_wp2_with (first|go_skip|((with_reducible show wpList ..);first|((with_reducible show wpList _ _ _ (Oper.mk _ (Op.build _ _) _ _ _ _::_) _ _);(refine rd rfl (Ol _ rfl rfl rfl) ?_;simp only[nn]))|((with_reducible show wpList _ _ _ (Oper.mk _ (Op.build _ _) _ _ _ _::_) _ _);(refine rd rfl (Oj _ rfl rfl rfl) ?_;simp only[nn]))|((with_reducible show wpList _ _ _ (Oper.mk _ (Op.build _ _) _ _ _ _::_) _ _);(refine rd rfl (Om rfl rfl) ?_;simp only[nn]))|((with_reducible show wpList _ _ _ (Oper.mk _ (Op.build _ _) _ _ _ _::_) _ _);(refine rd rfl (On rfl rfl) ?_;simp only[nn]))|(refine rd rfl (Na Dw rfl rfl rfl rfl rfl) ?_;simp only[nn])|((with_reducible show wpList _ _ _ (Oper.mk _ (Op.load _ _) _ _ _ _::_) _ _);(refine zL (Dw.cs) 36 5 1 rwV szV (by rfl) rfl rfl SS rfl rfl rfl ?_;simp only[nn]))|((with_reducible show wpList _ _ _ (Oper.mk _ (Op.load _ _) _ _ _ _::_) _ _);(refine zL (Ru.cs) 36 5 2 rwV szV (by rfl) rfl rfl SS rfl rfl rfl ?_;simp only[nn]))|((with_reducible show wpList _ _ _ (Oper.mk _ (Op.load _ _) _ _ _ _::_) _ _);(refine zL ((Lp 2).cs) 36 5 3 rwV szV (by rfl) rfl rfl SS rfl rfl rfl ?_;simp only[nn]))))
    have HC:=aw_set ((((Jd B 5 100 10).more gv q0).more gv1 q1).less.tab 0 q0 T1).less.less q1 {q0 with T:=T1} _ ((Aa SS).hp 0 rfl) K4 (hT.fr (Aa SS).fr (by simp)) rfl rfl rfl hpr1 hx1 hla1 hp1 hT1 (by show (4:Int)<=100 - 1 - 1 - 1;omega) (by show (0+3:Int)<=10;omega)
    rw[Ds,By,By] at HC
    refine HC.mono ?_
    rintro _ Y5 ⟨T2,rfl,T9⟩
    replace SS:=Ab ((Aa SS).heap 0 rfl T9)
    clear T9 HC
    have K5:(((((Jd B 5 100 10).more gv q0).more gv1 q1).less.tab 0 q0 T1).less.less.less.less.less.less.tab 1 q1 T2).Ok:=tab_ok (Mx (Mx (Mx (Mx K4 (by show (100 - 1 - 1 - 1:Int)≠0;omega)) (by show (100 - 1 - 1 - 1 - 1:Int)≠0;omega)) (by show (100 - 1 - 1 - 1 - 1 - 1:Int)≠0;omega)) (by show (100 - 1 - 1 - 1 - 1 - 1 - 1:Int)≠0;omega)) 1 q1 T2
    go_wp2_with (first|go_skip|((with_reducible show wpList ..);first|((with_reducible show wpList _ _ _ (Oper.mk _ (Op.build _ _) _ _ _ _::_) _ _);(refine rd rfl (Ol _ rfl rfl rfl) ?_;simp only[nn]))|((with_reducible show wpList _ _ _ (Oper.mk _ (Op.build _ _) _ _ _ _::_) _ _);(refine rd rfl (Oj _ rfl rfl rfl) ?_;simp only[nn]))|((with_reducible show wpList _ _ _ (Oper.mk _ (Op.build _ _) _ _ _ _::_) _ _);(refine rd rfl (Om rfl rfl) ?_;simp only[nn]))|((with_reducible show wpList _ _ _ (Oper.mk _ (Op.build _ _) _ _ _ _::_) _ _);(refine rd rfl (On rfl rfl) ?_;simp only[nn]))|(refine rd rfl (Na Dw rfl rfl rfl rfl rfl) ?_;simp only[nn])|((with_reducible show wpList _ _ _ (Oper.mk _ (Op.load _ _) _ _ _ _::_) _ _);(refine zL (Dw.cs) 36 5 1 rwV szV (by rfl) rfl rfl SS rfl rfl rfl ?_;simp only[nn]))|((with_reducible show wpList _ _ _ (Oper.mk _ (Op.load _ _) _ _ _ _::_) _ _);(refine zL (Ru.cs) 36 5 2 rwV szV (by rfl) rfl rfl SS rfl rfl rfl ?_;simp only[nn]))|((with_reducible show wpList _ _ _ (Oper.mk _ (Op.load _ _) _ _ _ _::_) _ _);(refine zL ((Lp 2).cs) 36 5 3 rwV szV (by rfl) rfl rfl SS rfl rfl rfl ?_;simp only[nn]))))
    have HC:=aw_get1 (((((Jd B 5 100 10).more gv q0).more gv1 q1).less.tab 0 q0 T1).less.less.less.less.less.less.tab 1 q1 T2) {q0 with T:=T1} _ ((Aa SS).hp 0 rfl) K5 (hT.fr (Aa SS).fr (by simp)) rfl rfl hT1 (by show (100 - 1 - 1 - 1 - 1 - 1 - 1 - 1:Int)≠0;omega) (by show (0:Int)≠10;omega)
    rw[Ds,By,By] at HC
    refine HC.mono ?_
    rintro _ Y6 ⟨rfl,T9⟩
    replace SS:=Ab ((Aa SS).heap 0 rfl T9)
    clear T9 HC
    go_wp2_with (first|go_skip|((with_reducible show wpList ..);first|((with_reducible show wpList _ _ _ (Oper.mk _ (Op.alloc _) _ _ _ _::_) _ _);(refine zA 36 (Av.cs) (by rfl) rfl SS ?_;clear SS;intro Xa Ba SS;simp only[nn]))|((with_reducible show wpList _ _ _ (Oper.mk _ (Op.store _ _ _) _ _ _ _::_) _ _);(refine zS (Dw.cs) 5 36 (by rfl) rfl rfl rfl rfl (Ek _) szV SS rfl ?_;clear SS;intro Xv SS;simp only[nn]))|((with_reducible show wpList _ _ _ (Oper.mk _ (Op.binOp _ _ _ _ _) _ _ _ _::_) _ _);(refine rd rfl (Gz rfl rfl rfl rfl) ?_;simp only[nn]))|((with_reducible show wpList _ _ _ (Oper.mk _ (Op.binOp _ _ _ _ _) _ _ _ _::_) _ _);(refine rd rfl (ex_eqNil rfl rfl) ?_;simp only[nn]))|((with_reducible show wpList _ _ _ (Oper.mk _ (Op.load _ _) _ _ _ _::_) _ _);(refine zL (Dw.cs) 36 5 4 rwV szV (by rfl) rfl rfl SS rfl rfl rfl ?_;simp only[nn]))|((with_reducible show wpList _ _ _ (Oper.mk _ (Op.load _ _) _ _ _ _::_) _ _);(refine zL (Dw.cs) 36 5 5 rwV szV (by rfl) rfl rfl SS rfl rfl rfl ?_;simp only[nn]))|((with_reducible show wpList _ _ _ (Oper.mk _ (Op.load _ _) _ _ _ _::_) _ _);(refine zL (Dw.cs) 36 5 1 rwV szV (by rfl) rfl rfl SS rfl rfl rfl ?_;simp only[nn]))|((with_reducible show wpList _ _ _ (Oper.mk _ (Op.load _ _) _ _ _ _::_) _ _);(refine zL (Ru.cs) 36 5 2 rwV szV (by rfl) rfl rfl SS rfl rfl rfl ?_;simp only[nn]))|((with_reducible show wpList _ _ _ (Oper.mk _ (Op.load _ _) _ _ _ _::_) _ _);(refine zL ((Lp 2).cs) 36 5 3 rwV szV (by rfl) rfl rfl SS rfl rfl rfl ?_;simp only[nn]))))
    have HE:=fun X=>Ra Dw Dw X
    simp only[By,Zd2] at HE
    refine(HE _).mono ?_
    rintro _ Y7 ⟨rfl,hY7⟩
    replace SS:=Ab ((Aa SS).on hY7)
    clear hY7 HE
    go_wp2_with (first|go_skip|((with_reducible show wpList ..);first|((with_reducible show wpList _ _ _ (Oper.mk _ (Op.load _ _) _ _ _ _::_) _ _);(refine zL (Dw.cs) 36 5 4 rwV szV (by rfl) rfl rfl SS rfl rfl rfl ?_;simp only[nn]))|((with_reducible show wpList _ _ _ (Oper.mk _ (Op.load _ _) _ _ _ _::_) _ _);(refine zL (Dw.cs) 36 5 5 rwV szV (by rfl) rfl rfl SS rfl rfl rfl ?_;simp only[nn]))|((with_reducible show wpList _ _ _ (Oper.mk _ (Op.load _ _) _ _ _ _::_) _ _);(refine zL (Dw.cs) 36 5 1 rwV szV (by rfl) rfl rfl SS rfl rfl rfl ?_;simp only[nn]))|((with_reducible show wpList _ _ _ (Oper.mk _ (Op.load _ _) _ _ _ _::_) _ _);(refine zL (Ru.cs) 36 5 2 rwV szV (by rfl) rfl rfl SS rfl rfl rfl ?_;simp only[nn]))|((with_reducible show wpList _ _ _ (Oper.mk _ (Op.load _ _) _ _ _ _::_) _ _);(refine zL ((Lp 2).cs) 36 5 3 rwV szV (by rfl) rfl rfl SS rfl rfl rfl ?_;simp only[nn]))))
    have HE:=fun X=>Ra Dw Dw X
    simp only[By,Zd2] at HE
    refine(HE _).mono ?_
    rintro _ Y8 ⟨rfl,hY8⟩
    replace SS:=Ab ((Aa SS).on hY8)
    clear hY8 HE
    go_wp2_with fail
    refine(ZbG (((((Jd B 5 100 10).more gv q0).more gv1 q1).less.tab 0 q0 T1).less.less.less.less.less.less.tab 1 q1 T2).less _ ((Aa SS).hp 0 rfl)).mono ?_
    rintro _ _ ⟨rfl,rfl⟩
    rw[show ((((Jd B 5 100 10).more gv q0).more gv1 q1).less.tab 0 q0 T1).less.less.fuel=97 from rfl,show (((((Jd B 5 100 10).more gv q0).more gv1 q1).less.tab 0 q0 T1).less.less.less.less.less.less.tab 1 q1 T2).less.fuel=92 from rfl]
    go_wp2
    go_ret
    exact⟨rfl,(Aa SS).fr.below⟩
