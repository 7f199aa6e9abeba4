import Derived.Test.YthjnflilfjcgiaaGreatFmtRm
import Derived.ProofKit
import Derived.OpenShut
import Derived.Deep.Slices
set_option linter.all false
namespace Go.Proofs.YthjnflilfjcgiaaGreatFmt
set_option maxRecDepth 100000
set_option maxHeartbeats 0
section
open Go Go.Proofs Go.Maps Go.RowKit FM Tryz
attribute [local go_sem] Ad Ag Ak Df Bi Ae Bg
theorem or_new (m n:Nat):orE [Di m Dg,0,Zbo (n:Int)]=0:=by
 rw[On]
 have:Zbo (n:Int)=0:=by unfold Zbo;rw[if_neg (by omega)]
 rw[this]
 rfl
theorem ex_gtL {o:Oper} {a:Act} {w:World} {x y:Operand} {n m:Int} {r:Bool} (ho:o.op= .binOp .gtr 2 x y 2) (hx:a.eval x= .int .i64 n) (hy:a.eval y= .int .i64 m) (h:decide (m<n)=r):(execOp a.eval o).run prog w= .ok (.value (.bool r)) w:=by
 unfold execOp
 simp only[ho,hx,hy]
 simp[go_sem,eqGuard,h]
theorem ex_c64 {o:Oper} {a:Act} {w:World} {x:Operand} {n:Nat} (ho:o.op= .convert 2 44 x) (hx:a.eval x= .int .i64 (n:Nat)) (hn:n<=4294967295):(execOp a.eval o).run prog w= .ok (.value (.int .u32 (n:Nat))) w:=by
 have e:IntKind.u32.wrap (n:Int)=(n:Int):=by
  rw[IntKind.wrap_u32]
  omega
 unfold execOp
 simp only[ho,hx]
 simp[go_sem,e]
theorem anew_h (h:HP) (n:Nat) (w:World) (H:h.Is w) (hT:Tabs w) (hl:h.l.length<=65535) (hroom:orE [Di h.l.length Dg,Gv Dg,Kd h]=0) (hn:n<=2000):Calls prog 25 #[.pointer (some ⟨h.b,0,none⟩),Dg.agg, .int .i64 (n:Nat)] w fun e w'=> ∃(gv:Value) (q:OB),e= .returned (.tuple #[.int .i64 ((h.l.length:Int)+1), .nilIface])/\q.c=3/\q.p=Dg/\q.x=true/\pr q.T= [(Bm,Jb n)]/\q.T.last<=1/\h.To (h.more gv q) w w':=by
 have SS:=Ab H.start
 rw[show Dg.agg= .agg Dg.cs.toArray from rfl]
 go_enter func25,ntmps25
 go_wp2_with (first|go_skip|((with_reducible show wpList ..);first|(refine zB 35 (Dg.cs) (by rfl) rfl rfl rfl SS ?_;clear SS;intro Xa Ba SS;simp only[nn])))
 have hS1:Sy w _ h.blocks [hpO h,Am Ba Dg.cs]:=(Aa SS).drew
 clear SS
 refine wp_region_held_drew (P:=prog) (S:=fun X=>Sy w X h.blocks _) (by kernel_rfl) (hS1) (fun hS0=> ?_)
 refine gp 0 (some 9) (.pointer (some ⟨h.b,0,none⟩)) rfl rfl (hS1) ?_
 refine gq 1 (some 10) (.agg Dg.cs.toArray) rfl rfl (fun X hX=>Aj (vs:=Dg.cs) 35 5 rwV szV rfl rfl (hX.hold 1 rfl) rfl rfl) (hS1) ?_
 refine gq 3 (some 12) (.agg Dg.cs.toArray) rfl rfl (fun X hX=>Aj (vs:=Dg.cs) 35 5 rwV szV rfl rfl (hX.hold 1 rfl) rfl rfl) (hS1) ?_
 refine gp 5 (some 14) (.int .i64 (n:Nat)) rfl rfl (hS1) ?_
 refine gr (rs:= [2]) (gcB 2 (some 11) rfl rfl hS1 (Mp h Dg _ (hS1.hp 0 rfl) (hT.fr hS1.fr H.low).1) id ?_ gn)
 intro Yt1 hqt1
 simp only[nn]
 refine gr (rs:= [4]) (gcB 4 (some 13) rfl rfl hqt1 (Rd _) id ?_ gn)
 intro Yt2 hqt2
 simp only[nn]
 refine gr (rs:= [6]) (gcW 6 (some 15) rfl rfl (hqt2) (Zdl (n:Int) _) ?_ gn)
 simp only[nn]
 refine gr (rs:= [7]) (Bl 7 (some 16) rfl rfl (by kernel_rfl) (Uc rfl rfl rfl rfl) (Nat.succ_pos _) hqt2 (fun _ hZ=>Sy.left (L:= [_,_]) (M:= [_]) hZ) ?_ gn)
 intro Yt4 Bt4 hEt4 hqt4
 clear hEt4
 simp only[nn]
 refine gr (rs:= [8]) (gcW 8 (some 17) rfl rfl (Sy.left (L:= [_,_]) (M:= [_]) hqt4) (Om Bt4 3 [Di h.l.length Dg,0,Zbo (n:Int)] _ (hqt4.hold 2 rfl) (by simp)) ?_ gn)
 refine gp 9 (some 8) (.int .i64 (orE [Di h.l.length Dg,0,Zbo (n:Int)])) rfl rfl (Sy.left (L:= [_,_]) (M:= [_]) hqt4) ?_
 refine wpAnyH_done (by kernel_rfl) ?_ _
 try simp only[nn]
 have SS:=Ab (Sy.left (L:= [hpO h,Am Ba Dg.cs]) (M:= [Am Bt4 (Ov [Di h.l.length Dg,0,Zbo (n:Int)])]) hqt4)
 rw[or_new]
 have d1:decide ((4294967295:Int)<(n:Int))=false:=decide_eq_false (by omega)
 go_wp2_with (first|go_skip|((with_reducible show wpList ..);first|(refine rd rfl (ex_gtL rfl rfl rfl d1) ?_)|(refine zL (Dg.cs) 35 5 1 rwV szV (by rfl) rfl rfl SS rfl rfl rfl ?_;simp only[nn])|(refine rd rfl (ex_c64 rfl rfl (by omega)) ?_)))
 have HC:=aadd_h h Dg n _ ((Aa SS).hp 0 rfl) (hT.fr (Aa SS).fr H.low) hl hroom (.inl hn)
 rw[show Dg.agg= .agg Dg.cs.toArray from rfl] at HC
 refine HC.mono ?_
 clear HC
 rintro _ Y ⟨gv,q,rfl,a1,a2,a3,a4,a5,T1⟩
 replace SS:=Ab ((Aa SS).heap 0 rfl T1)
 have hb1:(h.more gv q).b=h.b:=T1.hb
 have HA:=Ab (And.intro a1 (And.intro a2 (And.intro a3 (And.intro a4 a5))))
 clear T1 a1 a2 a3 a4 a5
 go_wp2
 go_ret2
 exact⟨gv,q,rfl,(Aa HA).1,(Aa HA).2.1,(Aa HA).2.2.1,(Aa HA).2.2.2.1,(Aa HA).2.2.2.2,HP.To.end H (Aa SS) hb1⟩
theorem has_no (h:HP) (j:Nat) (q:OB) (k:KK) (w:World) (H:h.Is w) (hl:h.l.length<=65536) (hj:h.l[j]? =some q) (hk:OkK k) (hfi:q.T.find k=none) (hpk:q.p.k≠7):Calls prog 151 #[.agg #[], .pointer (some ⟨h.b,0,none⟩), .int .i64 ((j:Int)+1),k.agg] w fun e w'=>e= .returned (.tuple #[.bool false, .nilIface])/\h.To h w w':=by
 have SS:=Ab H.start
 rw[Le]
 go_enter func151,ntmps151
 go_wp2_with (first|go_skip|((with_reducible show wpList ..);first|((refine bx0 81 (by rfl) rfl rfl (Aa SS) ?_);intro X0 B0 S0;replace SS:=Ab S0;clear S0;simp only[nn])|(refine zB 42 (k.cs) (by rfl) rfl rfl rfl SS ?_;clear SS;intro Xa Ba SS;simp only[nn])|(refine zL (k.cs) 42 2 1 rwK szK (by rfl) rfl rfl SS rfl rfl rfl ?_;simp only[nn])))
 refine(Zcb h j q k _ ((Aa SS).hp 0 rfl) hl hj hk).mono ?_
 rintro _ Y1 ⟨rfl,hb1⟩
 replace SS:=Ab ((Aa SS).on hb1)
 clear hb1
 rw[hfi]
 go_wp2_with (first|go_skip|((with_reducible show wpList ..);first|(refine zA 53 (Ap.cs) (by rfl) rfl SS ?_;clear SS;intro Xb Bb SS;simp only[nn])|(refine zS ((getD q.T k).cs) 2 53 (by rfl) rfl rfl rfl rfl (Jy _) szD SS rfl ?_;clear SS;intro Xz SS;simp only[nn])))
 refine(Qu h j q _ ((Aa SS).hp 0 rfl) hj hl).mono ?_
 rintro _ _ ⟨rfl,rfl⟩
 have HO:=Ab (((Aa SS).hp 0 rfl).ob hj).1
 go_wp2_with (first|go_skip|((with_reducible show wpList ..);first|(refine rd rfl (Aj (vs:=q.p.cs) 35 5 rwV szV rfl rfl (Aa HO) rfl rfl) ?_)|(refine zA 35 (Be.cs) (by rfl) rfl SS ?_;clear SS;intro Xc Bc SS;simp only[nn])|(refine zS (q.p.cs) 3 35 (by rfl) rfl rfl rfl rfl (Na _) szV SS rfl ?_;clear SS;intro Xy SS;simp only[nn])|(refine rd rfl (Ai 3 isAgg3 rfl rfl ((Aa SS).hold 3 rfl) rfl) ?_)|(refine zL (k.cs) 42 2 1 rwK szK (by rfl) rfl rfl SS rfl rfl rfl ?_;simp only[nn])|(refine rd rfl (Zab rfl rfl rfl hpk) ?_)))
 go_ret2
 exact⟨rfl,HP.To.end H (Aa SS) rfl⟩
theorem dhas_no (h:HP) (j:Nat) (q:OB) (k:KK) (w:World) (H:h.Is w) (hT:Tabs w) (K:h.Ok) (hj:h.l[j]? =some q) (hk:goodK k=true) (hfi:q.T.find k=none) (hpk:q.p.k≠7) (hf:h.fuel≠0) (hd:h.ent≠h.depth):Calls prog 26 #[.pointer (some ⟨h.b,0,none⟩), .int .i64 ((j:Int)+1),k.agg] w fun e w'=>e= .returned (.tuple #[.bool false, .nilIface])/\h.To h.less w w':=by
 refine(Vn h ((j:Int)+1) k w H K.len hT (fun h1 y er=>y=false/\er= .nilIface/\h1=h.less) ?_).mono ?_
 ·intro j' q' X ho hj' _ T1
  obtain rfl:j=j':=by omega
  obtain rfl:q=q':=Option.some.inj (hj.symm.trans hj')
  refine(Rk h j q k (fun h1 y er=>y=false/\er= .nilIface/\h1=h.inn) X T1.is K hj hf hd ?_).mono ?_
  ·intro Y T2
   refine(has_no h.inn j q k Y T2.is K.len hj (Ua hk) hfi hpk).mono ?_
   rintro _ Z ⟨rfl,T3⟩
   exact⟨_,_,_,rfl,⟨rfl,rfl,rfl⟩,rfl,T3⟩
  ·rintro _ Z ⟨h1,V,er,rfl,⟨rfl,rfl,rfl⟩,T3⟩
   refine⟨_,_,_,rfl,⟨rfl,rfl,rfl⟩, ?_⟩
   rw[inn_out] at T3
   exact T3
 ·rintro _ Z ⟨h1,V,er,rfl,hP,T3⟩
  have hz:orE [thE ((j:Int)+1) h.l.length,Da k]=0:=by
   have h2:Da k=0:=by unfold Da;rw[hk];rfl
   rw[Xu hj,h2]
   rfl
  rcases hP with ⟨h9,_⟩|⟨_,rfl,rfl,rfl⟩
  ·exact absurd hz h9
  ·exact⟨rfl,T3⟩
def elD:DD:=⟨Ee 4619567317775286272,Be,Be,0,0,2⟩
def elC:List Value:=Gc 4619567317775286272++Be.cs++Be.cs++ [.int .i64 0, .int .i64 0, .int .i64 2]
def elF:DD:=⟨Ee 4619567317775286272,Be,Be,1,1,2⟩
theorem Zai:elD.agg= .agg elC.toArray:=rfl
theorem el_FD:FD elD:=by unfold FD elD;decide
theorem Zbd:Bu elD=2:=by simp[Bu,elD,Jq,Gd]
theorem Zah:Gb elD=2:=by
 have hs:Ge elD=true:=by simp[Ge,elD,Jq,La,Mu,Gd,Pd,Be];simp[thV]
 unfold Gb
 rw[hs,Zbd]
 rfl
theorem app_el:Rl true Ap elD=true/\Du true Ap elD=elF:=by
 have hst:stV Ap=true:=by unfold stV;rw[Ko];rfl
 refine⟨?_, ?_⟩
 ·unfold Rl
  rw[Zah,hst,Ko]
  rfl
 ·unfold Du
  rw[Zah,hst,Ko]
  show Lf elD=elF
  unfold Lf
  rw[Zbd]
  simp[orV,orT,elD,elF,Jq]
theorem Zcv {T:TT} (hp:pr T=arrG 3 []):T.find (De 5)=none:=by
 have h1:Pw (pr T) (De 5)=false:=by rw[hp,Qe];rfl
 rw[Zh] at h1
 simpa using h1
theorem el_turn {h h1:HP} {j:Nat} {q:OB} {y:Bool} (hp:pr q.T=arrG 3 []) (hx:q.x=true) (hP:Zap h j q (De 5) elD h1 y):y=true/\ ∃T':TT,h1=h.tab j q T'/\pr T'=arrG 3 [(5,elF)]/\T'.last<=q.T.last+1:=by
 have hg:getD q.T (De 5)=Ap:=by unfold getD;rw[Zcv hp];rfl
 unfold Zap at hP
 rw[hg,hx,app_el.1,app_el.2] at hP
 obtain⟨rfl,hP⟩:=hP
 rcases hP with ⟨h0,_⟩|⟨_,T',rfl,hl,hpr⟩
 ·cases h0
 ·refine⟨rfl,T',rfl, ?_,hl⟩
  rw[hpr,hp]
  unfold ZaH
  rw[if_neg (by rw[Qe];simp)]
  rfl
theorem ex_add5 {o:Oper} {a:Act} {w:World} {x y:Operand} (ho:o.op= .binOp .add 44 x y 44) (hx:a.eval x= .int .u32 5) (hy:a.eval y= .int .u32 1):(execOp a.eval o).run prog w= .ok (.value (.int .u32 6)) w:=by
 unfold execOp
 simp only[ho,hx,hy]
 kernel_rfl
theorem ex_eq5 {o:Oper} {a:Act} {w:World} {x y:Operand} (ho:o.op= .binOp .eql 42 x y 42) (hx:a.eval x= .agg (De 5).cs.toArray) (hy:a.eval y=Bm.agg):(execOp a.eval o).run prog w= .ok (.value (.bool false)) w:=by
 unfold execOp
 simp only[ho,hx,hy]
 kernel_rfl
theorem ex_nf6 {o:Oper} {a:Act} {w:World} {x:Operand} (ho:o.op= .convert 44 33 x) (hx:a.eval x= .int .u32 6):(execOp a.eval o).run prog w= .ok (.value (.float .f64 (nf 6))) w:=Ev (n:=6) ho hx
def ElP (h:HP) (j:Nat) (q:OB) (w:World) (e:Ending) (w':World):Prop:= ∃T':TT,e= .returned (.tuple #[.bool true, .nilIface])/\pr T'=arrG 6 [(5,elF)]/\T'.last<=q.T.last+2/\h.To (h.tab j q T') w w'
theorem elt_h (h:HP) (j:Nat) (q:OB) (w:World) (H:h.Is w) (hT:Tabs w) (hl:h.l.length<=65536) (hj:h.l[j]? =some q) (hp:pr q.T=arrG 3 []) (hx:q.x=true) (hla:q.T.last<90000):Calls prog 186 #[.agg #[], .pointer (some ⟨h.b,0,none⟩), .int .i64 ((j:Int)+1), .int .u32 5,elD.agg] w (ElP h j q w):=by
 have hgl:=Lh hp
 have hCv:Cv (getD q.T Bm).v.x 3:=by rw[hgl];exact Zcg (n:=3) (.inl (by omega))
 have hw2:(getD q.T Bm).w=2:=by rw[hgl];rfl
 have hFn:FD (getD q.T (De 5)):=by unfold getD;rw[Zcv hp];exact Ys
 have SS:=Ab H.start
 rw[Zai]
 go_enter func186,ntmps186
 go_wp2_with (first|go_skip|((with_reducible show wpList ..);first|((refine bxE (by rfl) rfl rfl (Aa SS) ?_);intro X0 B0 S0;replace SS:=Ab S0;clear S0;simp only[nn])|(refine zB 53 (elC) (by rfl) rfl rfl rfl SS ?_;clear SS;intro Xd Bd SS;simp only[nn])|(refine rd rfl (ldM rfl rfl) ?_)))
 have HO:=Zam h j q 3 _ ((Aa SS).hp 0 rfl) hl hj hCv hw2
 refine HO.mono ?_
 clear HO
 rintro _ Y ⟨rfl,hb⟩
 replace SS:=Ab ((Aa SS).on hb)
 clear hb
 go_wp2_with fail
 have hS4:Sy w _ h.blocks [hpO h,Ku B0,Am Bd elC]:=(Aa SS).drew
 clear SS
 refine wp_region_held_drew (P:=prog) (S:=fun X=>X.heap[B0]? =some (Obj.cells #[] 83)/\Holds X Bd elC) (by kernel_rfl) (⟨hS4.emp 1 rfl,hS4.hold 2 rfl⟩) (fun hS0=> ?_)
 refine gq 0 (some 31) (.pointer (some ⟨B0,0,none⟩)) rfl rfl (fun X hX=>faM rfl rfl hX.1) (⟨hS4.emp 1 rfl,hS4.hold 2 rfl⟩) ?_
 refine gq 1 (some 32) (.agg #[]) rfl rfl (fun X hX=>ldO rfl rfl) (⟨hS4.emp 1 rfl,hS4.hold 2 rfl⟩) ?_
 refine gp 2 (some 33) (.pointer (some ⟨h.b,0,none⟩)) rfl rfl (⟨hS4.emp 1 rfl,hS4.hold 2 rfl⟩) ?_
 refine gp 3 (some 34) (.int .i64 ((j:Int)+1)) rfl rfl (⟨hS4.emp 1 rfl,hS4.hold 2 rfl⟩) ?_
 refine gp 4 (some 35) (.int .u32 5) rfl rfl (⟨hS4.emp 1 rfl,hS4.hold 2 rfl⟩) ?_
 refine gq 6 (some 37) (.agg elC.toArray) rfl rfl (fun X hX=>Aj (vs:=elC) 53 18 rwD szD rfl rfl hX.2 rfl rfl) (⟨hS4.emp 1 rfl,hS4.hold 2 rfl⟩) ?_
 refine gr (rs:= [5]) (gc 5 (some 36) rfl rfl (Lp 5 (by decide) _ (hT.fr hS4.fr H.low).2) ?_ gn)
 rintro e Yt1 ⟨rfl,hYt1⟩
 have hqt1:=Sy.on hS4 hYt1
 refine⟨_,rfl,⟨hqt1.emp 1 rfl,hqt1.hold 2 rfl⟩, ?_⟩
 simp only[nn]
 refine gr (rs:= [7]) (gc 7 (some 38) rfl rfl (Kz h j q (De 5) elD _ (hqt1.hp 0 rfl) hl hj (hT.fr hqt1.fr H.low) (ZbO (by decide)) (Mf (by decide)) hFn el_FD (by omega)) ?_ gn)
 rintro e Yt2 ⟨h1,y,rfl,hP,T3⟩
 obtain⟨rfl,T1,rfl,hp1,hl1⟩:=el_turn hp hx hP
 have hqp:=Sy.heap hqt1 0 rfl T3
 refine⟨_,rfl,⟨hqp.emp 1 rfl,hqp.hold 2 rfl⟩, ?_⟩
 refine gp 8 (some 30) (.tuple #[.bool true, .nilIface]) rfl rfl (⟨hqp.emp 1 rfl,hqp.hold 2 rfl⟩) ?_
 refine gp 9 (some 39) (.bool true) rfl rfl (⟨hqp.emp 1 rfl,hqp.hold 2 rfl⟩) ?_
 refine gp 10 (some 40) (.nilIface) rfl rfl (⟨hqp.emp 1 rfl,hqp.hold 2 rfl⟩) ?_
 refine gp 11 (some 14) (.bool true) rfl rfl (⟨hqp.emp 1 rfl,hqp.hold 2 rfl⟩) ?_
 refine gp 12 (some 15) (.nilIface) rfl rfl (⟨hqp.emp 1 rfl,hqp.hold 2 rfl⟩) ?_
 refine wpAnyH_done (by kernel_rfl) ?_ _
 try simp only[nn]
 have SS:=Ab hqp
 clear hqp
 go_wp2_with fail
 have hS8:Sy w _ h.blocks [hpO (h.tab j q T1),Ku B0,Am Bd elC]:=(Aa SS).drew
 clear SS
 refine wp_region_held_drew (P:=prog) (S:=fun X=>True) (by kernel_rfl) (trivial) (fun hS0=> ?_)
 refine gq 0 (some 51) (.agg #[]) rfl rfl (fun X hX=>ldM rfl rfl) (trivial) ?_
 refine gp 1 (some 52) (.pointer (some ⟨h.b,0,none⟩)) rfl rfl (trivial) ?_
 refine gp 2 (some 53) (.int .i64 ((j:Int)+1)) rfl rfl (trivial) ?_
 refine gp 4 (some 55) (.int .u32 5) rfl rfl (trivial) ?_
 refine gq 5 (some 56) (.int .u32 6) rfl rfl (fun X hX=>ex_add5 rfl rfl rfl) (trivial) ?_
 refine gq 6 (some 57) (.float .f64 (nf 6)) rfl rfl (fun X hX=>ex_nf6 rfl rfl) (trivial) ?_
 refine gr (rs:= [3]) (gc 3 (some 54) rfl rfl (Gn _) ?_ gn)
 rintro e Yu1 ⟨rfl,hYu1⟩
 have hqu1:=Sy.on hS8 hYu1
 refine⟨_,rfl,trivial, ?_⟩
 simp only[nn]
 refine gr (rs:= [7]) (gc 7 (some 58) rfl rfl (Dy (nf 6) _) ?_ gn)
 rintro e Yu2 ⟨rfl,hYu2⟩
 have hqu2:=Sy.on hqu1 hYu2
 refine⟨_,rfl,trivial, ?_⟩
 refine gq 8 (some 59) (.agg (lnC 6).toArray) rfl rfl (fun X hX=>ex_ln1 rfl rfl) (trivial) ?_
 refine gr (rs:= [9]) (gc 9 (some 60) rfl rfl (Zcl (h.tab j q T1) j {q with T:=T1} Bm (lnD 6) _ (hqu2.hp 0 rfl) (by rw[Rp];exact hl) (Yy hj T1) (hT.fr hqu2.fr H.low) Ks Gp (Ur (n:=3) (.inl (by omega)) (show pr T1=_ from hp1)) (ZaW (.inl (by omega))) (by show T1.last<4000000;omega)) ?_ gn)
 rintro e Yu3 ⟨h2,y2,rfl,hP2,T5⟩
 obtain⟨rfl,T4,rfl,hp4,hl4⟩:=Pp (q:={q with T:=T1}) (show pr T1=_ from hp1) hP2
 have hqr:=Sy.heap hqu2 0 rfl T5
 rw[Ro] at hqr
 refine⟨_,rfl,trivial, ?_⟩
 refine wpAnyH_done (by kernel_rfl) ?_ _
 try simp only[nn]
 have SS:=Ab hqr
 clear hqr
 go_wp2
 go_ret2
 exact⟨T4,rfl,hp4,(by have:=hl4;have:=hl1;show T4.last<=_;have h9:T4.last<=T1.last+1:=hl4;omega),HP.To.end H (Aa SS) rfl⟩
theorem mdef_e (h:HP) (j:Nat) (q:OB) (w:World) (H:h.Is w) (hT:Tabs w) (hl:h.l.length<=65536) (hj:h.l[j]? =some q) (hp:pr q.T=arrG 3 []) (hx:q.x=true) (hla:q.T.last<90000):Calls prog 183 #[.agg #[], .pointer (some ⟨h.b,0,none⟩), .int .i64 ((j:Int)+1),(De 5).agg,elD.agg] w (ElP h j q w):=by
 have SS:=Ab H.start
 rw[Le,Zai]
 go_enter func183,ntmps183
 go_wp2_with (first|go_skip|((with_reducible show wpList ..);first|((refine bxE (by rfl) rfl rfl (Aa SS) ?_);intro X0 B0 S0;replace SS:=Ab S0;clear S0;simp only[nn])|(refine zB 42 ((De 5).cs) (by rfl) rfl rfl rfl SS ?_;clear SS;intro Xa Ba SS;simp only[nn])|(refine zB 53 (elC) (by rfl) rfl rfl rfl SS ?_;clear SS;intro Xb Bb SS;simp only[nn])))
 have hS1:Sy w _ h.blocks [hpO h,Ku B0,Am Ba (De 5).cs,Am Bb elC]:=(Aa SS).drew
 clear SS
 refine wp_region_held_drew (P:=prog) (S:=fun X=>Sy w X h.blocks _) (by kernel_rfl) (hS1) (fun hS0=> ?_)
 refine gq 0 (some 14) (.agg (De 5).cs.toArray) rfl rfl (fun X hX=>Aj (vs:=(De 5).cs) 42 2 rwK szK rfl rfl (hX.hold 2 rfl) rfl rfl) (hS1) ?_
 refine gr (rs:= [1]) (gcB 1 (some 15) rfl rfl hS1 (Gn _) id ?_ gn)
 intro Yt1 hqt1
 refine gq 2 (some 16) (.bool false) rfl rfl (fun X hX=>ex_eq5 rfl rfl rfl) (hqt1) ?_
 refine wpAnyH_done (by kernel_rfl) ?_ _
 try simp only[nn]
 have SS:=Ab hqt1
 go_wp2_with (first|go_skip|((with_reducible show wpList ..);first|(refine z1 9 isAgg9 2 (by rfl) rfl rfl SS rfl rfl ?_;simp only[nn])))
 have HO:=fun X=>Nv (De 5).s (Za1 (by decide)) X
 rw[Ux (i:=5) (by decide)] at HO
 refine(HO _).mono ?_
 clear HO
 rintro _ Y ⟨rfl,hY⟩
 subst hY
 go_wp2_with (first|go_skip|((with_reducible show wpList ..);first|(refine rd rfl (ldM rfl rfl) ?_)|(refine zL (elC) 53 18 3 rwD szD (by rfl) rfl rfl SS rfl rfl rfl ?_;simp only[nn])))
 have HO:=elt_h h j q _ ((Aa SS).hp 0 rfl) (hT.fr (Aa SS).fr H.low) hl hj hp hx hla
 rw[Zai] at HO
 refine HO.mono ?_
 clear HO
 rintro _ Y3 ⟨T1,rfl,hp1,hl1,T3⟩
 replace SS:=Ab ((Aa SS).heap 0 rfl T3)
 clear T3
 go_wp2
 go_ret2
 exact⟨T1,rfl,hp1,hl1,HP.To.end H (Aa SS) rfl⟩
def ElQ (h:HP) (j:Nat) (q:OB) (h1:HP) (y:Bool) (er:Value):Prop:=y=true/\er= .nilIface/\ ∃T':TT,h1=(h.tab j q T').less/\pr T'=arrG 6 [(5,elF)]/\T'.last<=q.T.last+2
theorem endef_e (h:HP) (j:Nat) (q:OB) (w:World) (H:h.Is w) (hT:Tabs w) (K:h.Ok) (hj:h.l[j]? =some q) (hp:pr q.T=arrG 3 []) (hx:q.x=true) (hla:q.T.last<90000) (hf:h.fuel≠0) (hd:h.ent≠h.depth):Calls prog 44 #[.pointer (some ⟨h.b,0,none⟩), .int .i64 ((j:Int)+1),(De 5).agg,elD.agg] w fun e w'=> ∃(h1:HP) (y:Bool) (er:Value),e= .returned (.tuple #[.bool y,er])/\ElQ h j q h1 y er/\h.To h1 w w':=by
 refine(Gt h j q (De 5) elD (fun h1 y er=>ElQ h j q h1.out y er) w H K hj hf hd ?_).mono ?_
 ·intro X T1
  refine(mdef_e h.inn j q X T1.is (T1.tabs H hT) K.len hj hp hx hla).mono ?_
  rintro _ Y ⟨T',rfl,hpr,hla2,T2⟩
  exact⟨_,true, .nilIface,rfl,⟨rfl,rfl,T',by unfold HP.tab HP.out HP.inn HP.less;simp,hpr,hla2⟩,rfl,T2⟩
 ·rintro _ Y ⟨h1,y,er,rfl,hP,T2⟩
  exact⟨_,y,er,rfl,hP,T2⟩
theorem known_el (n:Nat):Az n [elD.v,elD.g,elD.s]=0:=by simp[Az,Jc,elD,Ee,Be]
theorem acc_el:Dl [elD.g,elD.s]=0:=by simp[Dl,Og,elD,Be]
theorem chk_el:Dk elD=0:=by unfold Dk;rw[Zah];rfl
theorem ddef_e (h:HP) (j:Nat) (q:OB) (w:World) (H:h.Is w) (hT:Tabs w) (K:h.Ok) (hj:h.l[j]? =some q) (hp:pr q.T=arrG 3 []) (hx:q.x=true) (hla:q.T.last<90000) (hf:h.fuel≠0) (hd:h.ent≠h.depth):Calls prog 15 #[.pointer (some ⟨h.b,0,none⟩), .int .i64 ((j:Int)+1),(De 5).agg,elD.agg] w fun e w'=> ∃T':TT,e= .returned (.tuple #[.bool true, .nilIface])/\pr T'=arrG 6 [(5,elF)]/\T'.last<=q.T.last+2/\h.To (h.tab j q T').less w w':=by
 refine(Gz h ((j:Int)+1) (De 5) elD w H K.len hT el_FD (ElQ h j q) ?_).mono ?_
 ·intro j' q' X ho hj' _ T1
  obtain rfl:j=j':=by omega
  obtain rfl:q=q':=Option.some.inj (hj.symm.trans hj')
  refine(endef_e h j q X T1.is (T1.tabs H hT) K hj hp hx hla hf hd).mono ?_
  exact fun e Y hh=>hh
 ·rintro _ Y ⟨h1,y,er,rfl,hP,T1⟩
  have hz:orE [thE ((j:Int)+1) h.l.length,Da (De 5),Dk elD,Az h.l.length [elD.v,elD.g,elD.s],Dl [elD.g,elD.s]]=0:=by
   have h2:Da (De 5)=0:=by unfold Da;rw[Mf (by decide)];rfl
   rw[Xu hj,h2,chk_el,known_el,acc_el]
   rfl
  rcases hP with ⟨h0,_⟩|⟨_,rfl,rfl,T',rfl,hpr,hla2⟩
  ·exact absurd hz h0
  ·exact⟨T',rfl,hpr,hla2,T1⟩
theorem Ji (e:Int) (w:World):Calls prog 7 #[.int .i64 e] w fun r w'=>r= .returned (.int .i64 e)/\w'=w:=by
 go_enter func7,ntmps7
 go_wp2
 go_ret
 exact⟨rfl,rfl⟩
theorem ex_bK {o:Oper} {a:Act} {w:World} {x:Operand} {b:ByteArray} (ho:o.op= .build 42 #[(0,x)]) (hx:a.eval x= .string b):(execOp a.eval o).run prog w= .ok (.value (.agg (KK.mk b 0).cs.toArray)) w:=by
 have e:(Instr.build 42 #[(0, .string b)]).run prog w= .ok (.agg (KK.mk b 0).cs.toArray) w:=by kernel_rfl
 unfold execOp
 simp only[ho,List.map_toArray,List.map_cons,List.map_nil,hx]
 simp[e]
theorem lstr (b:ByteArray) (w:World):Calls prog 16 #[.string b] w fun e w'=>e= .returned ((KK.mk b 0).agg)/\Below w.heap.size w w':=by
 have SS:=Ab (Sy.nil w [])
 go_enter func16,ntmps16
 go_wp2_with (first|go_skip|((with_reducible show wpList ..);first|(refine zA 42 (Ga.cs) (by rfl) rfl SS ?_;clear SS;intro Xa Ba SS;simp only[nn])|(refine rd rfl (ex_bK rfl rfl) ?_)|(refine zS ((KK.mk b 0).cs) 0 42 (by rfl) rfl rfl rfl rfl (oneK _) szK SS rfl ?_;clear SS;intro Xb SS;simp only[nn])))
 refine Ra rwK szK rfl rfl rfl ((Aa SS).hold 0 rfl) rfl ?_
 exact⟨rfl,(Aa SS).fr.below⟩
theorem Gg (w:World):Calls prog 9 #[] w fun e w'=>e= .returned (Dg.agg)/\Below w.heap.size w w':=by
 have SS:=Ab (Sy.nil w [])
 go_enter func9,ntmps9
 go_wp2_with (first|go_skip|((with_reducible show wpList ..);first|(refine zA 35 (Be.cs) (by rfl) rfl SS ?_;clear SS;intro Xa Ba SS;simp only[nn])))
 refine(outside2 _).mono ?_
 rintro _ Y1 ⟨rfl,hb1⟩
 replace SS:=Ab ((Aa SS).on hb1)
 clear hb1
 rw[Kg]
 go_wp2_with (first|go_skip|((with_reducible show wpList ..);first|(refine zS (Dg.cs) 0 35 (by rfl) rfl rfl rfl rfl (Na _) szV SS rfl ?_;clear SS;intro Xz SS;simp only[nn])))
 refine Ra rwV szV rfl rfl rfl ((Aa SS).hold 0 rfl) rfl ?_
 exact⟨rfl,(Aa SS).fr.below⟩
structure AH (h:HP) (q:OB) (F:Int):Prop where
 l:h.l= [q]
 c:q.c=3
 f:h.fuel=F
 d:h.depth=5
 e:h.ent=0
theorem AH.ok {h:HP} {q:OB} {F:Int} (A:AH h q F) (h0:0<=F) (h1:F<=10000):h.Ok:=by
 refine⟨by rw[A.l];show 1<=65536;decide,by rw[A.f];exact h0,by rw[A.f];omega,by rw[A.e];decide,by rw[A.e,A.d];decide,by rw[A.d];decide⟩
theorem AH.at0 {h:HP} {q:OB} {F:Int} (A:AH h q F):h.l[0]? =some q:=by rw[A.l];rfl
theorem AH.tab {h:HP} {q:OB} {F:Int} (A:AH h q F) (T':TT):AH (h.tab 0 q T').less {q with T:=T'} (F - 1):=by
 refine⟨?_,A.c, ?_,A.d,A.e⟩
 ·show h.l.set 0 _=_
  rw[A.l]
  rfl
 ·show h.fuel - 1=F - 1
  rw[A.f]
theorem AH.less {h:HP} {q:OB} {F:Int} (A:AH h q F):AH h.less q (F - 1):=⟨A.l,A.c,by show h.fuel - 1=F - 1;rw[A.f],A.d,A.e⟩
theorem AH.fu {h:HP} {q:OB} {F:Int} (A:AH h q F) (h0:0<F):h.fuel≠0:=by rw[A.f];omega
theorem AH.dp {h:HP} {q:OB} {F:Int} (A:AH h q F):h.ent≠h.depth:=by rw[A.e,A.d];decide
theorem Ka (B0:Nat) (F:Int) (gv:Value) (q:OB) (h3:q.c=3):AH ((Bj B0 1 F 5).more gv q) q F:=⟨rfl,h3,rfl,rfl,rfl⟩
theorem Gh (B0:Nat) (F:Int):orE [Di (Bj B0 1 F 5).l.length Dg,Gv Dg,Kd (Bj B0 1 F 5)]=0:=by
 rw[On]
 simp[Gv,Dg,Kd,Bj,orE]
theorem newF (F:Int) (hF:0<=F) (w:World) (h6:6<=w.heap.size):Calls prog 6 #[.int .i64 1, .int .i64 F, .int .i64 5] w fun e w'=> ∃B,e= .returned (.tuple #[.pointer (some ⟨B,0,none⟩), .int .i64 0])/\(Bj B 1 F 5).Is w'/\w.heap.size<=B/\Below w.heap.size w w':=by
 refine(new_h 1 F 5 w h6).mono ?_
 intro e X hN
 rcases hN with ⟨h0,_⟩|⟨_,h⟩
 ·exfalso
  unfold Mi at h0
  simp at h0
  omega
 ·exact h
theorem new_sy {w X:World} {B:Nat} {F:Int} (hI:(Bj B 1 F 5).Is X) (hB:w.heap.size<=B) (hb:Below w.heap.size w X):Sy w X [] [hpO (Bj B 1 F 5)]:=
 (Sy.nil w []).add (Zx _) hI hb (fun b h=>by
  have:b=B:=by simpa [hpO,Up] using h
  omega)
theorem k5:(KK.mk ⟨#[53]⟩ 0)=De 5:=by kernel_rfl
theorem keyL:(KK.mk ⟨#[108,101,110,103,116,104]⟩ 0)=Bm:=rfl
theorem nf2:nf 2=4611686018427387904:=by kernel_rfl
theorem ex_el {o:Oper} {a:Act} {w:World} {x y:Operand} (ho:o.op= .build 53 #[(0,x),(5,y)]) (hx:a.eval x=(Ee 4619567317775286272).agg) (hy:a.eval y= .int .i64 2):(execOp a.eval o).run prog w= .ok (.value (.agg elC.toArray)) w:=by
 have e:(Instr.build 53 #[(0,(Ee 4619567317775286272).agg),(5, .int .i64 2)]).run prog w= .ok (.agg elC.toArray) w:=by kernel_rfl
 unfold execOp
 simp only[ho,List.map_toArray,List.map_cons,List.map_nil,hx,hy]
 simp[e]
theorem ex_lnB {o:Oper} {a:Act} {w:World} {x:Operand} {b c:Nat} (hb:nf c=b) (ho:o.op= .build 53 #[(0,x)]) (hx:a.eval x=(Ee b).agg):(execOp a.eval o).run prog w= .ok (.value (.agg (lnC c).toArray)) w:=by
 subst hb
 exact ex_ln1 ho hx
theorem arr6:([(5,elF)]:List (Nat×DD)).filter (fun e=>decide (e.1<2))= []:=rfl
theorem none5 {T:TT} {n:Nat} (hp:pr T=arrG n []):T.find (De 5)=none:=by
 have h1:Pw (pr T) (De 5)=false:=by rw[hp,Qe];rfl
 rw[Zh] at h1
 simpa using h1
theorem Zp {T:TT} {n:Nat} {l:List (Nat×DD)} (hp:pr T=arrG n l) (hn:n<=2000∨n=4294967295):Cv (getD T Bm).v.x n/\(getD T Bm).w=2:=by
 rw[Lh hp]
 exact⟨Zcg hn,rfl⟩
end
section
open Go Go.Proofs Go.Maps Go.RowKit FM
attribute [local go_sem] Ad Ag Ak Df Bi Ae Bg
theorem Zb2 (w:World) (h6:6<=w.heap.size) (hT:Tabs w):Calls Tryz.prog 5 #[] w fun e w'=>e= .returned (.bool true)/\Below w.heap.size w w':=by
 have SS:=Ab (Sy.nil w [])
 have HT:=Ab hT
 clear hT
 go_enter Tryz.func5,Tryz.ntmps5
 go_wp2_with fail
 refine(newF 50 (by decide) _ h6).mono ?_
 rintro _ X1 ⟨B0,rfl,hI,hB0,hb⟩
 replace SS:=Ab (new_sy hI hB0 hb)
 clear hI hb hB0
 go_wp2_with fail
 refine(Ji 0 _).mono ?_
 rintro _ _ ⟨rfl,rfl⟩
 go_wp2_with fail
 refine(Gg _).mono ?_
 rintro _ Y ⟨rfl,hb⟩
 replace SS:=Ab ((Aa SS).on hb)
 clear hb
 go_wp2_with fail
 have HC:=anew_h (Bj B0 1 50 5) 3 _ ((Aa SS).hp 0 rfl) ((Aa HT).fr (Aa SS).fr (by simp)) (Nat.zero_le _) (Gh B0 50) (by omega)
 rw[show ((3:Nat):Int)=3 from rfl] at HC
 refine HC.mono ?_
 clear HC
 rintro _ Y ⟨gv,q,rfl,a1,a2,a3,a4,a5,T1⟩
 replace SS:=Ab ((Aa SS).heap 0 rfl T1)
 clear T1
 have A:=Ab (Ka B0 50 gv q a1)
 obtain⟨h,hh⟩: ∃h,h=(Bj B0 1 50 5).more gv q:=⟨_,rfl⟩
 rw[←hh] at A SS
 have hB:h.b=B0:=by rw[hh];rfl
 clear hh
 obtain rfl:B0=h.b:=hB.symm
 have HQ:=Ab (And.intro a2 (And.intro a3 (And.intro (show pr q.T=arrG 3 [] from a4) a5)))
 clear a1 a2 a3 a4 a5
 go_wp2_with fail
 refine(lstr _ _).mono ?_
 rintro _ Y ⟨rfl,hb⟩
 replace SS:=Ab ((Aa SS).on hb)
 clear hb
 rw[k5]
 go_wp2_with fail
 have HN:=fun X=>Dy 4619567317775286272 X
 refine(HN _).mono ?_
 clear HN
 rintro _ Y ⟨rfl,hb⟩
 replace SS:=Ab ((Aa SS).on hb)
 clear hb
 go_wp2_with (first|go_skip|((with_reducible show wpList ..);first|(refine rd rfl (ex_el rfl rfl rfl) ?_)))
 have HC:=ddef_e h 0 q _ ((Aa SS).hp 0 rfl) ((Aa HT).fr (Aa SS).fr (by simp)) ((Aa A).ok (by decide) (by decide)) (Aa A).at0 (Aa HQ).2.2.1 (Aa HQ).2.1 (by have:=(Aa HQ).2.2.2;omega) ((Aa A).fu (by decide)) (Aa A).dp
 rw[show ((0:Nat):Int)+1=1 from rfl] at HC
 rw[Zai] at HC
 refine HC.mono ?_
 clear HC
 rintro _ Y ⟨T1,rfl,hp1,hl1,T9⟩
 replace SS:=Ab ((Aa SS).heap 0 rfl T9)
 clear T9
 obtain⟨h2,q2,hb_h2,hp_h2,ht_h2,A1,SS⟩: ∃(h2:HP) (q2:OB),h2.b=h.b/\q2.p=q.p/\q2.T=T1/\Hid (AH h2 q2 (50 - 1))/\Hid (Sy w Y [] [hpO h2]):=⟨(h.tab 0 q T1).less,{q with T:=T1},rfl,rfl,rfl,Ab ((Aa A).tab T1),SS⟩
 rw[←ht_h2] at hp1 hl1
 have HP1:=Ab (And.intro hp1 hl1)
 clear hp1 hl1 ht_h2
 go_wp2_with fail
 have HC:=Lo h2 0 q2 6 _ ((Aa SS).hp 0 rfl) (by rw[(Aa A1).l];show 1<=65536;decide) (Aa A1).at0 (Aa A1).c (Zp (Aa HP1).1 (.inl (by decide))).1 (Zp (Aa HP1).1 (.inl (by decide))).2
 rw[show ((0:Nat):Int)+1=1 from rfl] at HC
 rw[hb_h2] at HC
 refine HC.mono ?_
 clear HC
 rintro _ Y ⟨rfl,hb⟩
 replace SS:=Ab ((Aa SS).on hb)
 clear hb
 go_wp2_with fail
 refine(lstr _ _).mono ?_
 rintro _ Y ⟨rfl,hb⟩
 replace SS:=Ab ((Aa SS).on hb)
 clear hb
 rw[keyL]
 go_wp2_with fail
 have HN:=fun X=>Dy 4611686018427387904 X
 refine(HN _).mono ?_
 clear HN
 rintro _ Y ⟨rfl,hb⟩
 replace SS:=Ab ((Aa SS).on hb)
 clear hb
 go_wp2_with (first|go_skip|((with_reducible show wpList ..);first|(refine rd rfl (ex_lnB nf2 rfl rfl) ?_)))
 have HC:=ddef_n h2 0 q2 2 6 [(5,elF)] _ ((Aa SS).hp 0 rfl) ((Aa HT).fr (Aa SS).fr (by simp)) ((Aa A1).ok (by decide) (by decide)) (Aa A1).at0 (Aa HP1).1 (fun e he=>by rw[List.mem_singleton.1 he];exact⟨by decide,by decide⟩) (fun e he=>by rw[List.mem_singleton.1 he];decide) (by decide) (by have:=(Aa HQ).2.2.2;have:=(Aa HP1).2;omega) (by decide) (.inl (by decide)) (.inl (by decide)) ((Aa A1).fu (by decide)) (Aa A1).dp
 rw[show ((0:Nat):Int)+1=1 from rfl] at HC
 rw[Oo] at HC
 rw[arr6] at HC
 rw[hb_h2] at HC
 refine HC.mono ?_
 clear HC
 rintro _ Y ⟨T2,rfl,hp2,hl2,T9⟩
 replace SS:=Ab ((Aa SS).heap 0 rfl T9)
 clear T9
 obtain⟨h3,q3,hb_h3,hp_h3,ht_h3,A2,SS⟩: ∃(h3:HP) (q3:OB),h3.b=h2.b/\q3.p=q2.p/\q3.T=T2/\Hid (AH h3 q3 (50 - 1 - 1))/\Hid (Sy w Y [] [hpO h3]):=⟨(h2.tab 0 q2 T2).less,{q2 with T:=T2},rfl,rfl,rfl,Ab ((Aa A1).tab T2),SS⟩
 rw[←ht_h3] at hp2
 have HP2:=Ab hp2
 clear hp2 hl2 ht_h3
 rw[hb_h2] at hb_h3
 rw[hp_h2] at hp_h3
 go_wp2_with fail
 have HC:=Lo h3 0 q3 2 _ ((Aa SS).hp 0 rfl) (by rw[(Aa A2).l];show 1<=65536;decide) (Aa A2).at0 (Aa A2).c (Zp (Aa HP2) (.inl (by decide))).1 (Zp (Aa HP2) (.inl (by decide))).2
 rw[show ((0:Nat):Int)+1=1 from rfl] at HC
 rw[hb_h3] at HC
 refine HC.mono ?_
 clear HC
 rintro _ Y ⟨rfl,hb⟩
 replace SS:=Ab ((Aa SS).on hb)
 clear hb
 go_wp2_with fail
 refine(lstr _ _).mono ?_
 rintro _ Y ⟨rfl,hb⟩
 replace SS:=Ab ((Aa SS).on hb)
 clear hb
 rw[k5]
 go_wp2_with fail
 have HC:=dhas_no h3 0 q3 (De 5) _ ((Aa SS).hp 0 rfl) ((Aa HT).fr (Aa SS).fr (by simp)) ((Aa A2).ok (by decide) (by decide)) (Aa A2).at0 (Mf (by decide)) (none5 (Aa HP2)) (by rw[hp_h3,(Aa HQ).1];decide) ((Aa A2).fu (by decide)) (Aa A2).dp
 rw[show ((0:Nat):Int)+1=1 from rfl] at HC
 rw[hb_h3] at HC
 refine HC.mono ?_
 clear HC
 rintro _ Y ⟨rfl,T9⟩
 replace SS:=Ab ((Aa SS).heap 0 rfl T9)
 clear T9
 go_wp2_with fail
 refine(Ji 0 _).mono ?_
 rintro _ _ ⟨rfl,rfl⟩
 go_wp2_with fail
 refine(Ji 0 _).mono ?_
 rintro _ _ ⟨rfl,rfl⟩
 go_wp2
 go_ret
 exact⟨rfl,(Aa SS).fr.below⟩
theorem Ln (w:World):Calls Tryz.prog 16 #[.string ⟨#[108,101,110,103,116,104]⟩] w fun e w'=>e= .returned Bm.agg/\Below w.heap.size w w':=lstr _ w
def Dh (vs:List VV):List (Nat×DD):=vs.mapIdx (fun i v=>(i,Kn v))
theorem Ny (vs:List VV):(Dh vs).length=vs.length:=by simp[Dh]
theorem Bz {vs:List VV} {e:Nat×DD} (h:e∈Dh vs):e.1<vs.length/\e.2.c≠1:=by
 obtain⟨i,hi,rfl⟩:=List.mem_mapIdx.1 h
 exact⟨hi,show (2:Int)≠1 by decide⟩
theorem els_fst (vs:List VV):(Dh vs).map (·.1)=List.range vs.length:=by
 unfold Dh
 apply List.ext_getElem
 ·simp
 ·intro i h1 h2
  simp
theorem Kv (vs:List VV):((Dh vs).map (·.1)).Nodup:=by rw[els_fst];exact List.nodup_range
theorem Jg (n:Nat) (vs:List VV):Qv n vs=arrG n (Dh vs):=arr_arrG n vs
end
section
open Go.WideShapes Go.ChangeShapes Go Go.Proofs Go.Maps Go.RowKit FM
theorem Zdh:Tryz.prog.cellsOf 35=5:=by kernel_rfl
theorem Zbk:Tryz.prog.cellsOf 3=1:=by kernel_rfl
theorem cellsOf4:Tryz.prog.cellsOf 4=1:=by kernel_rfl
theorem Zdi:Tryz.prog.cellsOf 33=1:=by kernel_rfl
theorem cellsOf9:Tryz.prog.cellsOf 9=1:=by kernel_rfl
section
variable {H : Type} {enc : TypeId × Value → H} {P : Program} {W : World} {base : Nat} {sp : Nat → Bool} {held : Bool} {m : Nat} {c : Value} {x : DataW H × List MemPlace} {t : TypeId}
theorem Zdj (hu:P.underlying t=some .bool) (h:DataW.trod enc P W base sp held m t [c]=some x): ∃b,c= .bool b/\x=(.lit (.bool b), []):=by
 cases m with
 |zero=>simp[DataW.trod] at h
 |succ m=>
  unfold DataW.trod at h
  rw[hu] at h
  split at h<;>simp_all
theorem wf64 {b:Nat} (h:(Lit.float .f64 b).wf=true):b<2^64:=by
 unfold Lit.wf at h
 exact of_decide_eq_true h
theorem Vs (hu:P.underlying t=some (.float .f64)) (h:DataW.trod enc P W base sp held m t [c]=some x): ∃b,c= .float .f64 b/\b<2^64/\x=(.lit (.float .f64 b), []):=by
 cases m with
 |zero=>simp[DataW.trod] at h
 |succ m=>
  unfold DataW.trod at h
  rw[hu] at h
  split at h<;>simp_all
  rename_i e
  subst e
  exact wf64 h.1.2
theorem Zbl (hu:P.underlying t=some .string) (h:DataW.trod enc P W base sp held m t [c]=some x): ∃s,c= .string s/\s.size<=maxLen/\x=(.lit (.string s.data.toList), []):=by
 cases m with
 |zero=>simp[DataW.trod] at h
 |succ m=>
  unfold DataW.trod at h
  rw[hu] at h
  split at h<;>simp_all
theorem Zbm (hu:P.underlying t=some (.int .i64)) (h:DataW.trod enc P W base sp held m t [c]=some x): ∃n,c= .int .i64 n/\(Lit.int .i64 n).wf=true/\x=(.lit (.int .i64 n), []):=by
 cases m with
 |zero=>simp[DataW.trod] at h
 |succ m=>
  unfold DataW.trod at h
  rw[hu] at h
  split at h<;>simp_all
theorem Zaj {f0 f1 f2 f3 f4:Field} {cs:List Value} (hs:P.underlying t=some (.struct #[f0,f1,f2,f3,f4])) (hC:P.cellsOf t=5)
  (o0:f0.offset=0) (o1:f1.offset=1) (o2:f2.offset=2) (o3:f3.offset=3) (o4:f4.offset=4)
  (u0:P.underlying f0.type=some (.int .i64)) (u1:P.underlying f1.type=some .bool) (u2:P.underlying f2.type=some (.float .f64)) (u3:P.underlying f3.type=some .string) (u4:P.underlying f4.type=some (.int .i64))
  (s0:P.cellsOf f0.type=1) (s1:P.cellsOf f1.type=1) (s2:P.cellsOf f2.type=1) (s3:P.cellsOf f3.type=1) (s4:P.cellsOf f4.type=1)
  (h:DataW.trod enc P W base sp held m t cs=some x):
  ∃u:VV,cs= [.int .i64 u.k, .bool u.b, .float .f64 u.x, .string u.s, .int .i64 u.i]/\u.x<2^64/\u.s.size<=maxLen/\(Lit.int .i64 u.k).wf=true/\(Lit.int .i64 u.i).wf=true:=by
 obtain⟨xs,n,_,rfl,hl,hlen,hf⟩:=DataW.trod_struct hs h
 rw[hC] at hl
 match cs,hl with
 | [c0,c1,c2,c3,c4],_=>
  have h0:=hf 0 _ rfl
  have h1:=hf 1 _ rfl
  have h2:=hf 2 _ rfl
  have h3:=hf 3 _ rfl
  have h4:=hf 4 _ rfl
  simp[s0,s1,s2,s3,s4,o0,o1,o2,o3,o4] at h0 h1 h2 h3 h4 hlen
  have g: ∀j,j<5-> ∃y,xs[j]? =some y:=fun j hj=>⟨_,List.getElem?_eq_getElem (by omega)⟩
  obtain⟨y0,e0⟩:=g 0 (by omega)
  obtain⟨y1,e1⟩:=g 1 (by omega)
  obtain⟨y2,e2⟩:=g 2 (by omega)
  obtain⟨y3,e3⟩:=g 3 (by omega)
  obtain⟨y4,e4⟩:=g 4 (by omega)
  rw[e0] at h0
  rw[e1] at h1
  rw[e2] at h2
  rw[e3] at h3
  rw[e4] at h4
  obtain⟨k,rfl,wk, -⟩:=Zbm u0 h0
  obtain⟨b,rfl, -⟩:=Zdj u1 h1
  obtain⟨f,rfl,wf, -⟩:=Vs u2 h2
  obtain⟨s,rfl,ws, -⟩:=Zbl u3 h3
  obtain⟨i,rfl,wi, -⟩:=Zbm u4 h4
  exact⟨⟨k,b,f,s,i⟩,rfl,wf,ws,wk,wi⟩
end
theorem Zbj {H:Type} {enc:TypeId×Value->H} {W:World} {base:Nat} {sp:Nat->Bool} {held:Bool} {m:Nat} {x:DataW H×List MemPlace} {cs:List Value} (h:DataW.trod enc Tryz.prog W base sp held m 35 cs=some x):
  ∃u:VV,cs=u.cs/\u.x<2^64:=by
 obtain⟨u,h1,h2,_⟩:=Zaj Tryz.underlying35 Zdh rfl rfl rfl rfl rfl Tryz.underlying3 Tryz.underlying4 Tryz.underlying33 Tryz.underlying9 Tryz.underlying3 Zbk cellsOf4 Zdi cellsOf9 Zbk h
 exact⟨u,h1,h2⟩
theorem add_plain (b o i:Nat):(Addr.add ⟨b,o,none⟩ i)=⟨b,o+i,none⟩:=by
 unfold Addr.add
 by_cases h:i=0
 ·subst h;simp
 ·simp[h]
