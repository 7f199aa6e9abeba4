import Derived.Test.YtfnohipnenkhoaaGreatDoorRl
import Derived.Test.YtfnohipnenkhoaaGreatDoorRx
set_option linter.all false
namespace Go.Proofs.YtfnohipnenkhoaaGreatDoor
set_option maxRecDepth 100000
set_option maxHeartbeats 0
section
open Go Go.Proofs Go.Maps Go.RowKit FM Tryz
attribute [local go_sem] Am Al Ar Ah Ao Ai Aw Do Dn Bq Aj Bo
def numV (x:Nat):VV:=⟨4,false,x,⟨#[]⟩,0⟩
def Dy:VV:=numV 4617315517961601024
def Ui:VV:=numV 4618441417868443648
def nulV:VV:=⟨2,false,0,⟨#[]⟩,0⟩
def Mb (n:Int):VV:=⟨7,false,0,⟨#[]⟩,n⟩
def aK:KK:=⟨⟨#[97]⟩,0⟩
theorem Ow {o:Oper} {a:Act} {w:World} {x0 x1:Operand} (x:Nat) (ho:o.op= .build 36 #[(0,x0),(2,x1)]) (h0:a.eval x0= .int .i64 4) (h1:a.eval x1= .float .f64 x):(execOp a.eval o).run prog w= .ok (.value (.agg (numV x).cs.toArray)) w:=by
 have e:(Instr.build 36 #[(0, .int .i64 4),(2, .float .f64 x)]).run prog w= .ok (.agg (numV x).cs.toArray) w:=by kernel_rfl
 unfold execOp
 simp only[ho,List.map_toArray,List.map_cons,List.map_nil,h0,h1]
 simp[e]
theorem Ov {o:Oper} {a:Act} {w:World} {x0 x1:Operand} (n:Int) (ho:o.op= .build 36 #[(0,x0),(4,x1)]) (h0:a.eval x0= .int .i64 7) (h1:a.eval x1= .int .i64 n):(execOp a.eval o).run prog w= .ok (.value (.agg (Mb n).cs.toArray)) w:=by
 have e:(Instr.build 36 #[(0, .int .i64 7),(4, .int .i64 n)]).run prog w= .ok (.agg (Mb n).cs.toArray) w:=by kernel_rfl
 unfold execOp
 simp only[ho,List.map_toArray,List.map_cons,List.map_nil,h0,h1]
 simp[e]
theorem Ox {o:Oper} {a:Act} {w:World} {x0:Operand} (ho:o.op= .build 36 #[(0,x0)]) (h0:a.eval x0= .int .i64 2):(execOp a.eval o).run prog w= .ok (.value (.agg nulV.cs.toArray)) w:=by
 have e:(Instr.build 36 #[(0, .int .i64 2)]).run prog w= .ok (.agg nulV.cs.toArray) w:=by kernel_rfl
 unfold execOp
 simp only[ho,List.map_toArray,List.map_cons,List.map_nil,h0]
 simp[e]
theorem Oy {o:Oper} {a:Act} {w:World} {x0:Operand} (ho:o.op= .build 48 #[(0,x0)]) (h0:a.eval x0= .string ⟨#[97]⟩):(execOp a.eval o).run prog w= .ok (.value (.agg aK.cs.toArray)) w:=by
 have e:(Instr.build 48 #[(0, .string ⟨#[97]⟩)]).run prog w= .ok (.agg aK.cs.toArray) w:=by kernel_rfl
 unfold execOp
 simp only[ho,List.map_toArray,List.map_cons,List.map_nil,h0]
 simp[e]
theorem ex_nePu {o:Oper} {a:Act} {w:World} {x:Operand} {B:Nat} (ho:o.op= .binOp .eql 27 x (.const (.pointer none)) 27) (hx:a.eval x= .pointer (some ⟨B,0,none⟩)):(execOp a.eval o).run prog w= .ok (.value (.bool false)) w:=by
 unfold execOp
 simp only[ho,hx,show a.eval (.const (.pointer none))= .pointer none from rfl]
 simp[go_sem,eqGuard]
theorem ex_eqNil {o:Oper} {a:Act} {w:World} {x:Operand} (ho:o.op= .binOp .eql 72 x (.const .nilIface) 72) (hx:a.eval x= .nilIface):(execOp a.eval o).run prog w= .ok (.value (.bool true)) w:=by
 unfold execOp
 simp only[ho,hx,show a.eval (.const .nilIface)= .nilIface from rfl]
 simp[go_sem,eqGuard]
theorem Zer:OkK aK:=⟨by decide,by decide⟩
theorem Vm:goodK aK=true:=by rw[ZcD];kernel_rfl
theorem Zei:FD (Eu Dy):=⟨by decide,by decide,by decide⟩
theorem five_app:Yx true Ak (Eu Dy)=true:=by kernel_rfl
theorem Ze3:Ec true Ak (Eu Dy)=Eu Dy:=by kernel_rfl
theorem six_app:Yx true Ak (Eu Ui)=true:=by kernel_rfl
theorem Zeh:eqB Dy Dy=true:=by simp[eqB]
theorem code_def:orE [thE 1 2,Bm aK,Gb (Eu Dy),Ax 2 [Dy,Av,Av],Gj [Av,Av]]=0:=by
 rw[show Bm aK=0 by unfold Bm;rw[Vm];rfl]
 kernel_rfl
theorem ZcP (o:Int) (ho:thE o 2=0):orE [thE o 2,Bm aK,Bh [Mb 2],Ax 2 [Mb 2]]=0:=by
 rw[show Bm aK=0 by unfold Bm;rw[Vm];rfl,ho]
 kernel_rfl
theorem code_set:orE [thE 2 2,Bm aK,Bh [Ui,Mb 2],Ax 2 [Ui,Mb 2]]=0:=by
 rw[show Bm aK=0 by unfold Bm;rw[Vm];rfl]
 kernel_rfl
theorem tab_ok {h:HP} (K:h.Ok) (j:Nat) (q:OB) (T':TT):(h.tab j q T').Ok:=⟨by show (h.l.set j _).length<=_;rw[List.length_set];exact K.len,K.f0,K.f1,K.e0,K.e1,K.d1⟩
theorem aw_def (h:HP) (q0:OB) (w:World) (H:h.Is w) (K:h.Ok) (hT:Tabs w) (hl:h.l.length=2) (hj:h.l[0]? =some q0) (hx:q0.x=true) (hp:pr q0.T= []) (hla:q0.T.last=0) (h0:h.fuel≠0) (hd:h.ent≠h.depth):Calls prog 18 #[.pointer (some ⟨h.b,0,none⟩), .int .i64 1,aK.agg,(Eu Dy).agg] w fun e w'=> ∃T':TT,e= .returned (.tuple #[.bool true, .nilIface])/\pr T'= [(aK,Eu Dy)]/\h.To (h.less.tab 0 q0 T') w w':=by
 have hz:getD q0.T aK=Ak:=by rw[pr_get,hp];rfl
 refine(Md h 1 aK (Eu Dy) w H K.len hT Zei (fun h1 y er=> ∃T':TT,y=true/\er= .nilIface/\h1=h.less.tab 0 q0 T'/\pr T'= [(aK,Eu Dy)]) (fun j q X ho hj2 hc2 TX=> ?_)).mono ?_
 ·obtain rfl:j=0:=by omega
  rw[hj] at hj2
  cases hj2
  refine(def_x h 0 q0 aK (Eu Dy) X TX.is K hj (TX.tabs H hT) Zer Vm (by rw[hz];exact Zbe) Zei (by omega) h0 hd).mono ?_
  rintro e Y ⟨h1,y,rfl,⟨hy,hP⟩,T⟩
  rw[hz,hx,five_app] at hy
  subst hy
  rcases hP with ⟨hc, -⟩|⟨-,T',rfl, -,hpr⟩
  ·cases hc
  ·exact⟨_,true, .nilIface,rfl,⟨T',rfl,rfl,rfl,by rw[hpr,hz,hx,hp,Ze3];rfl⟩,T⟩
 ·rintro e Y ⟨h1,y,er,rfl,⟨hn, -⟩|⟨-,T',rfl,rfl,rfl,hpr⟩,T⟩
  ·exact absurd (by rw[hl];exact code_def) hn
  ·exact⟨T',rfl,hpr,T⟩
theorem ZcI {T:TT} {k:KK} (hp:pr T= []):T.find k=none:=by
 have:=Zdf T k
 rw[hp] at this
 cases hf:T.find k with
 |none=>rfl
 |some r=>rw[hf] at this;cases this
theorem Zdv {T:TT} (hp:pr T= [(aK,Eu Dy)]):(T.find aK).isSome=true/\getD T aK=Eu Dy:=by
 refine⟨?_, ?_⟩
 ·rw[←Zdf,hp]
  simp[ZbO]
 ·rw[pr_get,hp]
  simp[lkP]
theorem ZcM (h:HP) (o:Int) (j:Nat) (q:OB) (k:KK) (r V:VV) (h2:HP) (w:World) (H:h.Is w) (K:h.Ok) (hT:Tabs w) (ho:o=(j:Int)+1) (hj:h.l[j]? =some q) (hc:orE [thE o h.l.length,Bm k,Bh [r],Ax h.l.length [r]]=0) (hC: ∀X,h.To h w X->Calls prog 36 #[.pointer (some ⟨h.b,0,none⟩), .int .i64 ((j:Int)+1),k.agg,r.agg] X fun e w'=>e= .returned (.tuple #[V.agg, .nilIface])/\h.To h2 X w'):Calls prog 19 #[.pointer (some ⟨h.b,0,none⟩), .int .i64 o,k.agg,r.agg] w fun e w'=>e= .returned (.tuple #[V.agg, .nilIface])/\h.To h2 w w':=by
 refine(dorGet h o k r w H K.len hT (fun h1 V1 er=>V1=V/\er= .nilIface/\h1=h2) (fun j2 q2 X ho2 hj2 hc2 TX=> ?_)).mono ?_
 ·obtain rfl:j2=j:=by omega
  refine(hC X TX).mono ?_
  rintro e Y ⟨rfl,T⟩
  exact⟨_,_,_,rfl,⟨rfl,rfl,rfl⟩,T⟩
 ·rintro e Y ⟨h1,V1,er,rfl,⟨hn, -⟩|⟨-,rfl,rfl,rfl⟩,T⟩
  ·exact absurd hc hn
  ·exact⟨rfl,T⟩
theorem aw_get2 (h:HP) (q q2:OB) (w:World) (H:h.Is w) (K:h.Ok) (hT:Tabs w) (hl:h.l.length=2) (hj:h.l[1]? =some q) (hi:h.l[0]? =some q2) (hn:pr q.T= []) (hp:q.p=Mb 1) (hs:pr q2.T= [(aK,Eu Dy)]) (hf:2<=h.fuel) (hd:h.ent+2<=h.depth):Calls prog 19 #[.pointer (some ⟨h.b,0,none⟩), .int .i64 2,aK.agg,(Mb 2).agg] w fun e w'=>e= .returned (.tuple #[Dy.agg, .nilIface])/\h.To h.less.less w w':=by
 obtain⟨e1,e2⟩:=Zdv hs
 refine ZcM h 2 1 q aK (Mb 2) Dy _ w H K hT rfl hj (by rw[hl];exact ZcP 2 (by decide)) (fun X TX=> ?_)
 have HC:=get_two h 1 0 q q2 aK (Mb 2) X TX.is K hj hi Zer (ZcI hn) (by rw[hp];rfl) (by rw[hp];rfl) e1 (by rw[e2];decide) hf hd
 rw[e2] at HC
 exact HC
theorem aw_get1 (h:HP) (q2:OB) (w:World) (H:h.Is w) (K:h.Ok) (hT:Tabs w) (hl:h.l.length=2) (hi:h.l[0]? =some q2) (hs:pr q2.T= [(aK,Eu Dy)]) (hf:h.fuel≠0) (hd:h.ent≠h.depth):Calls prog 19 #[.pointer (some ⟨h.b,0,none⟩), .int .i64 1,aK.agg,(Mb 2).agg] w fun e w'=>e= .returned (.tuple #[Dy.agg, .nilIface])/\h.To h.less w w':=by
 obtain⟨e1,e2⟩:=Zdv hs
 refine ZcM h 1 0 q2 aK (Mb 2) Dy _ w H K hT rfl hi (by rw[hl];exact ZcP 1 (by decide)) (fun X TX=> ?_)
 have HC:=Zeg h 0 q2 aK (Mb 2) X TX.is K hi Zer e1 (by rw[e2];decide) hf hd
 rw[e2] at HC
 exact HC
theorem aw_set (h:HP) (q q2:OB) (w:World) (H:h.Is w) (K:h.Ok) (hT:Tabs w) (hl:h.l.length=2) (hj:h.l[1]? =some q) (hi:h.l[0]? =some q2) (hn:pr q.T= []) (hx:q.x=true) (hla:q.T.last=0) (hp:q.p=Mb 1) (hs:pr q2.T= [(aK,Eu Dy)]) (hf:4<=h.fuel) (hd:h.ent+3<=h.depth):Calls prog 20 #[.pointer (some ⟨h.b,0,none⟩), .int .i64 2,aK.agg,Ui.agg,(Mb 2).agg] w fun e w'=> ∃T':TT,e= .returned (.tuple #[.bool true, .nilIface])/\h.To (h.less.less.less.less.tab 1 q T') w w':=by
 obtain⟨e1,e2⟩:=Zdv hs
 obtain⟨r0,hr0⟩:=Option.isSome_iff_exists.1 e1
 refine(dorSet h 2 aK Ui (Mb 2) w H K.len hT (fun h1 y er=> ∃T':TT,y=true/\er= .nilIface/\h1=h.less.less.less.less.tab 1 q T') (fun j q3 X ho hj2 hc2 TX=> ?_)).mono ?_
 ·obtain rfl:j=1:=by omega
  refine(set_two h 1 0 q q2 aK Ui (Mb 2) X TX.is K hj hi (TX.tabs H hT) Zer Vm (by decide) (ZcI hn) (by rw[hp];rfl) (by rw[hp];rfl) (by omega) (by rw[hx];exact six_app) rfl rfl r0 hr0 (by rw[e2];rfl) (by rw[e2];decide) hf hd).mono ?_
  rintro e Y ⟨T',rfl,T⟩
  exact⟨_,_,_,rfl,⟨T',rfl,rfl,rfl⟩,T⟩
 ·rintro e Y ⟨h1,y,er,rfl,⟨hn, -⟩|⟨-,T',rfl,rfl,rfl⟩,T⟩
  ·exact absurd (by rw[hl];exact code_set) hn
  ·exact⟨T',rfl,T⟩
theorem awake_h (w:World) (hT:Tabs w) (h6:6<=w.heap.size):Calls prog 5 #[] w fun e w'=>e= .returned (.bool true)/\Below w.heap.size w w':=by
 have SS:=Ab (Sy.nil w [])
 go_enter func5,ntmps5
 go_wp2_with fail
 refine(new_h 5 100 10 _ (Nat.le_trans h6 (Aa SS).fr.size)).mono ?_
 rintro _ Y0 (⟨hb,rfl,hY0⟩|⟨hb,B,rfl,hI,hB,hY0⟩)
 ·exact absurd hb (by decide)
 ·replace SS:=Ab (new_sy (Aa SS) hI hB hY0)
  clear hI hB hY0
  have K0:(Jg B 5 100 10).Ok:=⟨by show 0<=65536;omega,by show (0:Int)<=100;omega,by show (100:Int)<=9223372036854775807;omega,by show (0:Int)<=0;omega,by show (0:Int)<=10;omega,by show (10:Int)<=100000000;omega⟩
  go_wp2_with (first|go_skip|((with_reducible show wpList ..);first|((with_reducible show qB ..);(refine rd rfl (ex_nePu rfl rfl) ?_))|((with_reducible show qF ..);(refine zA 36 (Av.cs) (by rfl) rfl SS ?_;clear SS;intro Xa Ba SS;simp only[nn]))|((with_reducible show qE ..);(refine zS (Dy.cs) 1 36 (by rfl) rfl rfl rfl rfl (Em _) szV SS rfl ?_;clear SS;intro Xy SS;simp only[nn]))|((with_reducible show qE ..);(refine zS (Ui.cs) 2 36 (by rfl) rfl rfl rfl rfl (Em _) szV SS rfl ?_;clear SS;intro Xz SS;simp only[nn]))|((with_reducible show qC ..);(refine rd rfl (Ow _ rfl rfl rfl) ?_))|((with_reducible show qC ..);(refine rd rfl (Ov _ rfl rfl rfl) ?_))|((with_reducible show qC ..);(refine rd rfl (Ox rfl rfl) ?_))|((with_reducible show qC ..);(refine rd rfl (Oy rfl rfl) ?_))|(refine rd rfl (Ni Dy rfl rfl rfl rfl rfl) ?_)))
  have HC:=ZbD (Jg B 5 100 10) nulV _ ((Aa SS).hp 0 rfl) (hT.fr (Aa SS).fr (by simp)) K0.len
  rw[Db] at HC
  refine HC.mono ?_
  rintro _ Y1 (⟨rfl,hn, -⟩|⟨-,gv,q0,rfl,hc0,hp0,hx0,hpr0,hla0,T9⟩)
  ·exact absurd (by kernel_rfl) hn
  ·replace SS:=Ab ((Aa SS).heap 0 rfl T9)
   clear T9 HC
   go_wp2_with (first|go_skip|((with_reducible show wpList ..);first|((with_reducible show qC ..);(refine rd rfl (Ow _ rfl rfl rfl) ?_))|((with_reducible show qC ..);(refine rd rfl (Ov _ rfl rfl rfl) ?_))|((with_reducible show qC ..);(refine rd rfl (Ox rfl rfl) ?_))|((with_reducible show qC ..);(refine rd rfl (Oy rfl rfl) ?_))|(refine rd rfl (Ni Dy rfl rfl rfl rfl rfl) ?_)))
   have HC:=ZbD ((Jg B 5 100 10).more gv q0) (Mb 1) _ ((Aa SS).hp 0 rfl) (hT.fr (Aa SS).fr (by simp)) (by show 1<=65536;omega)
   rw[Db] at HC
   refine HC.mono ?_
   rintro _ Y2 (⟨rfl,hn, -⟩|⟨-,gv1,q1,rfl,hc1,hp1,hx1,hpr1,hla1,T9⟩)
   ·exact absurd (by kernel_rfl) hn
   ·replace SS:=Ab ((Aa SS).heap 0 rfl T9)
    clear T9 HC
    have K2:(((Jg B 5 100 10).more gv q0).more gv1 q1).Ok:=⟨by show 2<=65536;omega,K0.f0,K0.f1,K0.e0,K0.e1,K0.d1⟩
    go_wp2_with (first|go_skip|((with_reducible show wpList ..);first|((with_reducible show qC ..);(refine rd rfl (Ow _ rfl rfl rfl) ?_))|((with_reducible show qC ..);(refine rd rfl (Ov _ rfl rfl rfl) ?_))|((with_reducible show qC ..);(refine rd rfl (Ox rfl rfl) ?_))|((with_reducible show qC ..);(refine rd rfl (Oy rfl rfl) ?_))|(refine rd rfl (Ni Dy rfl rfl rfl rfl rfl) ?_)|((with_reducible show qA ..);(refine zL (Dy.cs) 36 5 1 rwV szV (by rfl) rfl rfl SS rfl rfl rfl ?_;simp only[nn]))|((with_reducible show qA ..);(refine zL (Ui.cs) 36 5 2 rwV szV (by rfl) rfl rfl SS rfl rfl rfl ?_;simp only[nn]))|((with_reducible show qA ..);(refine zL ((Mb 2).cs) 36 5 3 rwV szV (by rfl) rfl rfl SS rfl rfl rfl ?_;simp only[nn]))))
    have HC:=aw_def (((Jg B 5 100 10).more gv q0).more gv1 q1) q0 _ ((Aa SS).hp 0 rfl) K2 (hT.fr (Aa SS).fr (by simp)) rfl rfl hx0 hpr0 hla0 (by show (100:Int)≠0;omega) (by show (0:Int)≠10;omega)
    rw[Ds,Mw] at HC
    refine HC.mono ?_
    rintro _ Y3 ⟨T1,rfl,hT1,T9⟩
    replace SS:=Ab ((Aa SS).heap 0 rfl T9)
    clear T9 HC
    have K3:((((Jg B 5 100 10).more gv q0).more gv1 q1).less.tab 0 q0 T1).Ok:=tab_ok (Nf K2 (by show (100:Int)≠0;omega)) 0 q0 T1
    go_wp2_with (first|go_skip|((with_reducible show wpList ..);first|((with_reducible show qF ..);(refine zA 36 (Av.cs) (by rfl) rfl SS ?_;clear SS;intro Xa Ba SS;simp only[nn]))|((with_reducible show qE ..);(refine zS ((Mb 2).cs) 3 36 (by rfl) rfl rfl rfl rfl (Em _) szV SS rfl ?_;clear SS;intro Xx SS;simp only[nn]))|((with_reducible show qC ..);(refine rd rfl (Ow _ rfl rfl rfl) ?_))|((with_reducible show qC ..);(refine rd rfl (Ov _ rfl rfl rfl) ?_))|((with_reducible show qC ..);(refine rd rfl (Ox rfl rfl) ?_))|((with_reducible show qC ..);(refine rd rfl (Oy rfl rfl) ?_))|(refine rd rfl (Ni Dy rfl rfl rfl rfl rfl) ?_)|((with_reducible show qA ..);(refine zL (Dy.cs) 36 5 1 rwV szV (by rfl) rfl rfl SS rfl rfl rfl ?_;simp only[nn]))|((with_reducible show qA ..);(refine zL (Ui.cs) 36 5 2 rwV szV (by rfl) rfl rfl SS rfl rfl rfl ?_;simp only[nn]))|((with_reducible show qA ..);(refine zL ((Mb 2).cs) 36 5 3 rwV szV (by rfl) rfl rfl SS rfl rfl rfl ?_;simp only[nn]))))
    have HC:=aw_get2 ((((Jg B 5 100 10).more gv q0).more gv1 q1).less.tab 0 q0 T1) q1 {q0 with T:=T1} _ ((Aa SS).hp 0 rfl) K3 (hT.fr (Aa SS).fr (by simp)) rfl rfl rfl hpr1 hp1 hT1 (by show (2:Int)<=100 - 1;omega) (by show (0+2:Int)<=10;omega)
    rw[Ds,Db,Db] at HC
    refine HC.mono ?_
    rintro _ Y4 ⟨rfl,T9⟩
    replace SS:=Ab ((Aa SS).heap 0 rfl T9)
    clear T9 HC
    have K4:((((Jg B 5 100 10).more gv q0).more gv1 q1).less.tab 0 q0 T1).less.less.Ok:=Nf (Nf K3 (by show (100 - 1:Int)≠0;omega)) (by show (100 - 1 - 1:Int)≠0;omega)
    go_wp2_with (first|go_skip|((with_reducible show wpList ..);first|((with_reducible show qF ..);(refine zA 36 (Av.cs) (by rfl) rfl SS ?_;clear SS;intro Xa Ba SS;simp only[nn]))|((with_reducible show qE ..);(refine zS (Dy.cs) 4 36 (by rfl) rfl rfl rfl rfl (Em _) szV SS rfl ?_;clear SS;intro Xw SS;simp only[nn]))|((with_reducible show qC ..);(refine rd rfl (Ow _ rfl rfl rfl) ?_))|((with_reducible show qC ..);(refine rd rfl (Ov _ rfl rfl rfl) ?_))|((with_reducible show qC ..);(refine rd rfl (Ox rfl rfl) ?_))|((with_reducible show qC ..);(refine rd rfl (Oy rfl rfl) ?_))|(refine rd rfl (Ni Dy rfl rfl rfl rfl rfl) ?_)|((with_reducible show qA ..);(refine zL (Dy.cs) 36 5 1 rwV szV (by rfl) rfl rfl SS rfl rfl rfl ?_;simp only[nn]))|((with_reducible show qA ..);(refine zL (Ui.cs) 36 5 2 rwV szV (by rfl) rfl rfl SS rfl rfl rfl ?_;simp only[nn]))|((with_reducible show qA ..);(refine zL ((Mb 2).cs) 36 5 3 rwV szV (by rfl) rfl rfl SS rfl rfl rfl ?_;simp only[nn]))))
    refine(fuel_h ((((Jg B 5 100 10).more gv q0).more gv1 q1).less.tab 0 q0 T1).less.less _ ((Aa SS).hp 0 rfl)).mono ?_
    rintro _ _ ⟨rfl,rfl⟩
    go_wp2_with (first|go_skip|((with_reducible show wpList ..);first|((with_reducible show qC ..);(refine rd rfl (Ow _ rfl rfl rfl) ?_))|((with_reducible show qC ..);(refine rd rfl (Ov _ rfl rfl rfl) ?_))|((with_reducible show qC ..);(refine rd rfl (Ox rfl rfl) ?_))|((with_reducible show qC ..);(refine rd rfl (Oy rfl rfl) ?_))|(refine rd rfl (Ni Dy rfl rfl rfl rfl rfl) ?_)|((with_reducible show qA ..);(refine zL (Dy.cs) 36 5 1 rwV szV (by rfl) rfl rfl SS rfl rfl rfl ?_;simp only[nn]))|((with_reducible show qA ..);(refine zL (Ui.cs) 36 5 2 rwV szV (by rfl) rfl rfl SS rfl rfl rfl ?_;simp only[nn]))|((with_reducible show qA ..);(refine zL ((Mb 2).cs) 36 5 3 rwV szV (by rfl) rfl rfl SS rfl rfl rfl ?_;simp only[nn]))))
    have HC:=aw_set ((((Jg B 5 100 10).more gv q0).more gv1 q1).less.tab 0 q0 T1).less.less q1 {q0 with T:=T1} _ ((Aa SS).hp 0 rfl) K4 (hT.fr (Aa SS).fr (by simp)) rfl rfl rfl hpr1 hx1 hla1 hp1 hT1 (by show (4:Int)<=100 - 1 - 1 - 1;omega) (by show (0+3:Int)<=10;omega)
    rw[Ds,Db,Db] at HC
    refine HC.mono ?_
    rintro _ Y5 ⟨T2,rfl,T9⟩
    replace SS:=Ab ((Aa SS).heap 0 rfl T9)
    clear T9 HC
    have K5:(((((Jg B 5 100 10).more gv q0).more gv1 q1).less.tab 0 q0 T1).less.less.less.less.less.less.tab 1 q1 T2).Ok:=tab_ok (Nf (Nf (Nf (Nf K4 (by show (100 - 1 - 1 - 1:Int)≠0;omega)) (by show (100 - 1 - 1 - 1 - 1:Int)≠0;omega)) (by show (100 - 1 - 1 - 1 - 1 - 1:Int)≠0;omega)) (by show (100 - 1 - 1 - 1 - 1 - 1 - 1:Int)≠0;omega)) 1 q1 T2
    go_wp2_with (first|go_skip|((with_reducible show wpList ..);first|((with_reducible show qC ..);(refine rd rfl (Ow _ rfl rfl rfl) ?_))|((with_reducible show qC ..);(refine rd rfl (Ov _ rfl rfl rfl) ?_))|((with_reducible show qC ..);(refine rd rfl (Ox rfl rfl) ?_))|((with_reducible show qC ..);(refine rd rfl (Oy rfl rfl) ?_))|(refine rd rfl (Ni Dy rfl rfl rfl rfl rfl) ?_)|((with_reducible show qA ..);(refine zL (Dy.cs) 36 5 1 rwV szV (by rfl) rfl rfl SS rfl rfl rfl ?_;simp only[nn]))|((with_reducible show qA ..);(refine zL (Ui.cs) 36 5 2 rwV szV (by rfl) rfl rfl SS rfl rfl rfl ?_;simp only[nn]))|((with_reducible show qA ..);(refine zL ((Mb 2).cs) 36 5 3 rwV szV (by rfl) rfl rfl SS rfl rfl rfl ?_;simp only[nn]))))
    have HC:=aw_get1 (((((Jg B 5 100 10).more gv q0).more gv1 q1).less.tab 0 q0 T1).less.less.less.less.less.less.tab 1 q1 T2) {q0 with T:=T1} _ ((Aa SS).hp 0 rfl) K5 (hT.fr (Aa SS).fr (by simp)) rfl rfl hT1 (by show (100 - 1 - 1 - 1 - 1 - 1 - 1 - 1:Int)≠0;omega) (by show (0:Int)≠10;omega)
    rw[Ds,Db,Db] at HC
    refine HC.mono ?_
    rintro _ Y6 ⟨rfl,T9⟩
    replace SS:=Ab ((Aa SS).heap 0 rfl T9)
    clear T9 HC
    go_wp2_with (first|go_skip|((with_reducible show wpList ..);first|((with_reducible show qF ..);(refine zA 36 (Av.cs) (by rfl) rfl SS ?_;clear SS;intro Xa Ba SS;simp only[nn]))|((with_reducible show qE ..);(refine zS (Dy.cs) 5 36 (by rfl) rfl rfl rfl rfl (Em _) szV SS rfl ?_;clear SS;intro Xv SS;simp only[nn]))|((with_reducible show qB ..);(refine rd rfl (Jb rfl rfl rfl rfl) ?_))|((with_reducible show qB ..);(refine rd rfl (ex_eqNil rfl rfl) ?_))|((with_reducible show qA ..);(refine zL (Dy.cs) 36 5 4 rwV szV (by rfl) rfl rfl SS rfl rfl rfl ?_;simp only[nn]))|((with_reducible show qA ..);(refine zL (Dy.cs) 36 5 5 rwV szV (by rfl) rfl rfl SS rfl rfl rfl ?_;simp only[nn]))|((with_reducible show qA ..);(refine zL (Dy.cs) 36 5 1 rwV szV (by rfl) rfl rfl SS rfl rfl rfl ?_;simp only[nn]))|((with_reducible show qA ..);(refine zL (Ui.cs) 36 5 2 rwV szV (by rfl) rfl rfl SS rfl rfl rfl ?_;simp only[nn]))|((with_reducible show qA ..);(refine zL ((Mb 2).cs) 36 5 3 rwV szV (by rfl) rfl rfl SS rfl rfl rfl ?_;simp only[nn]))))
    have HE:=fun X=>Qe Dy Dy X
    simp only[Db,Zeh] at HE
    refine(HE _).mono ?_
    rintro _ Y7 ⟨rfl,hY7⟩
    replace SS:=Ab ((Aa SS).on hY7)
    clear hY7 HE
    go_wp2_with (first|go_skip|((with_reducible show wpList ..);first|((with_reducible show qA ..);(refine zL (Dy.cs) 36 5 4 rwV szV (by rfl) rfl rfl SS rfl rfl rfl ?_;simp only[nn]))|((with_reducible show qA ..);(refine zL (Dy.cs) 36 5 5 rwV szV (by rfl) rfl rfl SS rfl rfl rfl ?_;simp only[nn]))|((with_reducible show qA ..);(refine zL (Dy.cs) 36 5 1 rwV szV (by rfl) rfl rfl SS rfl rfl rfl ?_;simp only[nn]))|((with_reducible show qA ..);(refine zL (Ui.cs) 36 5 2 rwV szV (by rfl) rfl rfl SS rfl rfl rfl ?_;simp only[nn]))|((with_reducible show qA ..);(refine zL ((Mb 2).cs) 36 5 3 rwV szV (by rfl) rfl rfl SS rfl rfl rfl ?_;simp only[nn]))))
    have HE:=fun X=>Qe Dy Dy X
    simp only[Db,Zeh] at HE
    refine(HE _).mono ?_
    rintro _ Y8 ⟨rfl,hY8⟩
    replace SS:=Ab ((Aa SS).on hY8)
    clear hY8 HE
    go_wp2_with fail
    refine(fuel_h (((((Jg B 5 100 10).more gv q0).more gv1 q1).less.tab 0 q0 T1).less.less.less.less.less.less.tab 1 q1 T2).less _ ((Aa SS).hp 0 rfl)).mono ?_
    rintro _ _ ⟨rfl,rfl⟩
    rw[show ((((Jg B 5 100 10).more gv q0).more gv1 q1).less.tab 0 q0 T1).less.less.fuel=97 from rfl,show (((((Jg B 5 100 10).more gv q0).more gv1 q1).less.tab 0 q0 T1).less.less.less.less.less.less.tab 1 q1 T2).less.fuel=92 from rfl]
    go_wp2
    go_ret
    exact⟨rfl,(Aa SS).fr.below⟩
