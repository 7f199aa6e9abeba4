import Derived.Test.YtfefpbjkbmaicaaGreatDoorRs
import Derived.Test.YtfefpbjkbmaicaaGreatDoorRt
set_option linter.all false
namespace Go.Proofs.YtfefpbjkbmaicaaGreatDoor
set_option maxRecDepth 100000
set_option maxHeartbeats 0
section
open Go Go.Proofs Go.Maps Go.RowKit FM Tryz
attribute [local go_sem] Av Ap Dv Du De Au Ao Az Dd Gu Gt
theorem Za0 {o:Oper} {a:Act} {w:World} {x:Operand} {n:Nat} (ho:o.op= .convert 3 44 x) (hx:a.eval x= .int .i64 (n:Nat)) (hn:n<=4294967295):(execOp a.eval o).run prog w= .ok (.value (.int .u32 (n:Nat))) w:=by
 have e:IntKind.u32.wrap (n:Int)=(n:Int):=by rw[IntKind.wrap_u32];omega
 unfold execOp
 simp only[ho,hx]
 simp[go_sem,convert,e]
theorem ex_opn {o:Oper} {a:Act} {w:World} {x c1 c2 c3:Operand} (v:VV) (ho:o.op= .build 29 #[(0,x),(3,c1),(4,c2),(5,c3)]) (hx:a.eval x= .agg v.cs.toArray) (h1:a.eval c1= .int .i64 2) (h2:a.eval c2= .int .i64 2) (h3:a.eval c3= .int .i64 2):(execOp a.eval o).run prog w= .ok (.value (.agg (opnD v).cs.toArray)) w:=by
 have e:(Instr.build 29 #[(0, .agg v.cs.toArray),(3, .int .i64 2),(4, .int .i64 2),(5, .int .i64 2)]).run prog w= .ok (.agg (opnD v).cs.toArray) w:=by kernel_rfl
 unfold execOp
 simp only[ho,List.map_toArray,List.map_cons,List.map_nil,hx,h1,h2,h3]
 simp[e]
def Es (x:Nat):VV:=⟨4,false,x,ByteArray.empty,0⟩
theorem num_any (x:Nat) (w:World):Calls prog 58 #[.float .f64 x] w fun e w'=>e= .returned ((Es x).agg)/\Below w.heap.size w w':=by
 have SS:=Ac (Sy.nil w [])
 go_enter func58,ntmps58
 go_wp2_with (first|go_skip|((with_reducible show wpList ..);first|(refine zA 26 (Bz.cs) (by rfl) rfl SS ?_;clear SS;intro Xa Ba SS;simp only[nn])))
 refine(Zq x _).mono ?_
 rintro _ Y1 ⟨rfl,hb1⟩
 replace SS:=Ac ((Aa SS).on hb1)
 clear hb1
 rw[Dk]
 go_wp2_with (first|go_skip|((with_reducible show wpList ..);first|(refine zS ((Es x).cs) 0 26 (by rfl) rfl rfl rfl rfl (Eb _) szV SS rfl ?_;clear SS;intro Xz SS;simp only[nn])))
 refine Vi rwV szV rfl rfl rfl ((Aa SS).hold 0 rfl) rfl ?_
 exact⟨rfl,(Aa SS).fr.below⟩
theorem Mn {h:HP} {j:Nat} {q:OB} (hj:h.l[j]? =some q) (T':TT):(h.tab j q T').l[j]? =some {q with T:=T'}:=List.getElem?_set_self (List.getElem?_eq_some_iff.1 hj).1
theorem Xj (h:HP) (j:Nat) (q:OB) (T' T2:TT):(h.tab j q T').tab j {q with T:=T'} T2=h.tab j q T2:=by
 unfold HP.tab
 simp[List.set_set]
theorem tab_self {h:HP} {j:Nat} {q:OB} (hj:h.l[j]? =some q):h.tab j q q.T=h:=by
 unfold HP.tab
 obtain⟨hlt,rfl⟩:=List.getElem?_eq_some_iff.1 hj
 have e:h.l.set j {h.l[j] with T:=h.l[j].T}=h.l:=List.set_getElem_self hlt
 rw[e]
theorem Jh (h:HP) (j:Nat) (q:OB) (T':TT):(h.tab j q T').l.length=h.l.length:=by
 unfold HP.tab
 simp
def FillI (h:HP) (j:Nat) (q:OB) (vs:List VV) (w:World) (Bm Bd i:Nat) (wr:World):Prop:= ∃T:TT,TI T vs i/\Sy w wr h.blocks [hpO (h.tab j q T),Yj 72 Bm,Al Bd (Jz Ag).cs]
def nf (n:Nat):Nat:=FloatKind.f64.nearest (n:Int)
theorem nfAll:(List.range 1025).all (fun n=>decide (nf n<2^64))=true:=by kernel_rfl
theorem nf_lt {n:Nat} (h:n<=1024):nf n<2^64:=of_decide_eq_true (List.all_eq_true.1 nfAll n (List.mem_range.2 (by omega)))
theorem ex_nfy {o:Oper} {a:Act} {w:World} {x:Operand} {n y:Nat} (ho:o.op= .convert 3 24 x) (hx:a.eval x= .int .i64 (n:Nat)) (hy:nf n=y):(execOp a.eval o).run prog w= .ok (.value (.float .f64 y)) w:=by
 subst hy
 unfold execOp
 simp only[ho,hx]
 simp[go_sem,convert,Conv.intToFloat,nf]
theorem ex_kc {o:Oper} {a:Act} {w:World} (s:ByteArray) (ho:o.op= .build 42 #[(0, .const (.string s))]):(execOp a.eval o).run prog w= .ok (.value (.agg (KK.cs ⟨s,0⟩).toArray)) w:=Za1 ho rfl
theorem Mv:Ag.good=true:=by simp[VV.good,Ef,Lx,Ag,inG]
theorem fill_h (h:HP) (j:Nat) (q:OB) (B:Option Addr) (c:Nat) (vs:List VV) (w:World) (H:h.Is w) (hl:h.l.length<=65536) (hj:h.l[j]? =some q) (hT:Tabs w) (HRV: ∀{X:World},Fr w X h.blocks->ReadsV X B vs) (hz2:vs.length<=1024) (hgood: ∀(i:Nat) (v:VV),vs[i]? =some v->v.good=true) (hX64: ∀(i:Nat) (v:VV),vs[i]? =some v->v.x<2^64) (hx:q.x=true) (ht:TI q.T vs 0):Calls prog 30 #[.agg #[], .pointer (some ⟨h.b,0,none⟩), .int .i64 ((j:Int)+1), .slice B vs.length c,(Jz Ag).agg] w fun e w'=> ∃T':TT,e= .returned (.tuple #[])/\TE T' vs (vs.length+1+1)/\h.To (h.tab j q T') w w':=by
 have SS:Hid (Sy w w h.blocks [hpO h]):=Ac H.start
 rw[Em]
 go_enter func30,ntmps30
 go_wp2_with (first|go_skip|((with_reducible show wpList ..);first|((refine bxE72 (by rfl) rfl rfl (Aa SS) ?_);intro X0 Bm S0;replace SS:=Ac S0;clear S0;simp only[nn])|(refine zB 29 ((Jz Ag).cs) (by rfl) rfl rfl rfl SS ?_;clear SS;intro Xd Bd SS;simp only[nn])|(refine rd rfl (Dj 22 26 underlying22 rfl rfl) ?_)))
 have HI0:Hid (FillI h j q vs w Bm Bd 0 _):=Ac ⟨q.T,ht,by rw[tab_self hj];exact Aa SS⟩
 clear SS
 go_loopg [14] vs.length (fun gm s14 wr=> ∃i:Nat,s14= .int .i64 (i:Nat)/\i<=vs.length/\vs.length - i<=gm/\Hid (FillI h j q vs w Bm Bd i wr))
 case atStart=>exact⟨0,rfl,by omega,by omega,HI0⟩
 case round=>
  clear HI0
  obtain⟨i,rfl,hil,hgm,HI⟩:=hrel
  by_cases hlt:i<vs.length
  ·have dlt:decide ((i:Int)<(vs.length:Int))=true:=decide_eq_true (by omega)
   have hw1:IntKind.i64.wrap ((i:Int)+1)=(i:Int)+1:=by rw[IntKind.wrap_i64];omega
   have hi32:i<=4294967295:=by omega
   obtain⟨v,hv⟩: ∃v,vs[i]? =some v:=⟨_,List.getElem?_eq_getElem hlt⟩
   have HG:=Ac (hgood i v hv)
   obtain⟨b,off,hA,hb,hrg⟩:=HRV (Fr.refl w h.blocks) i v hv
   have HA2:Hid (∀X:World,Fr w X h.blocks->X.rangeAt b (off+i * 5) v.cs):=Ac (fun X k=>by
    obtain⟨b2,off2,hA2,_,hr2⟩:=(HRV k) i v hv
    rw[hA] at hA2
    obtain⟨rfl,rfl⟩:b=b2/\off=off2:=by simpa using hA2
    exact hr2)
   subst hA
   obtain⟨T,hT0,hS⟩:=Aa HI
   have SS:=Ac hS
   clear hS HI
   have hla0:T.last<4000000:=by have:=hT0.la;omega
   have HLT:=Ac hlt
   clear hb hrg hlt hil
   go_wp2_with (first|go_skip|((with_reducible show wpList ..);first|(refine rd rfl (Ds 22 5 i Oy Pq rfl rfl rfl (Aa HLT)) ?_)|(refine rd rfl (Ev (vs:=v.cs) 26 5 rwV szV rfl rfl (Aa HA2 _ (Aa SS).fr) rfl) ?_)|(refine zA 26 (Bz.cs) (by rfl) rfl SS ?_;clear SS;intro Xv Bv SS;simp only[nn])|(refine zS (v.cs) 3 26 (by rfl) rfl rfl rfl rfl (Eb v) szV SS rfl ?_;clear SS;intro X4 SS;simp only[nn])))
   have hS9:Sy w _ h.blocks [hpO (h.tab j q T),Yj 72 Bm,Al Bd (Jz Ag).cs,Al Bv v.cs]:=(Aa SS).drew
   clear SS
   have hl2:(h.tab j q T).l.length<=65536:=by rw[Jh];exact hl
   have hok:=Lf (u:=i) (by have:=Aa HLT;omega)
   have hgd:=Kl (u:=i) (by have:=Aa HLT;omega)
   have hFn:FD (getD T (idxK i)):=by rw[My (Ys hT0)];exact Qy
   have hFd:FD (opnD v):=⟨hX64 i v hv,show 0<2^64 by decide,show 0<2^64 by decide⟩
   refine wp_region_held_drew (P:=prog) (S:=fun X=>Holds X Bv v.cs) (by kernel_rfl) (hS9.hold 3 rfl) (fun hS0=> ?_)
   refine gq 0 (some 19) (.agg #[]) rfl rfl (fun X hX=>ldU rfl rfl) (hS9.hold 3 rfl) ?_
   refine gp 1 (some 20) (.pointer (some ⟨h.b,0,none⟩)) rfl rfl (hS9.hold 3 rfl) ?_
   refine gp 2 (some 21) (.int .i64 ((j:Int)+1)) rfl rfl (hS9.hold 3 rfl) ?_
   refine gp 3 (some 22) (.int .i64 (i:Nat)) rfl rfl (hS9.hold 3 rfl) ?_
   refine gq 4 (some 23) (.int .u32 (i:Nat)) rfl rfl (fun X hX=>Za0 rfl rfl hi32) (hS9.hold 3 rfl) ?_
   refine gq 6 (some 25) (.agg v.cs.toArray) rfl rfl (fun X hX=>Ax (vs:=v.cs) 26 5 rwV szV rfl rfl hX rfl rfl) (hS9.hold 3 rfl) ?_
   refine gq 7 (some 26) (.agg (opnD v).cs.toArray) rfl rfl (fun X hX=>ex_opn v rfl rfl rfl rfl rfl) (hS9.hold 3 rfl) ?_
   refine gr (rs:= [5]) (gc 5 (some 24) rfl rfl (Nc i hi32 _ (hT.fr hS9.fr H.low).2) ?_ gn)
   rintro e Yt1 ⟨rfl,hYt1⟩
   have hqt1:=Sy.on hS9 hYt1
   refine⟨_,rfl,hqt1.hold 3 rfl, ?_⟩
   simp only[nn]
   refine gr (rs:= [8]) (gc 8 (some 27) rfl rfl (Zbs (h.tab j q T) j {q with T:=T} (idxK i) (opnD v) _ (hqt1.hp 0 rfl) hl2 (Mn hj T) (hT.fr hqt1.fr H.low) hok hgd hFn hFd hla0) ?_ gn)
   rintro e Yt2 ⟨h1,y,rfl,hP,T3⟩
   have hqp:=Sy.heap hqt1 0 rfl T3
   refine⟨_,rfl,hqp.hold 3 rfl, ?_⟩
   refine wpAnyH_done (by kernel_rfl) ?_ _
   try simp only[nn]
   obtain⟨T',rfl,hti⟩:=ti_step (q:={q with T:=T}) hv (Aa HG) hx hT0 hP
   rw[Xj] at hqp
   have HI2:Hid (FillI h j q vs w Bm Bd (i+1) _):=Ac ⟨T',hti,Sy.left (L:= [_,_,_]) (M:= [_]) hqp⟩
   clear hqp hP T3 hti
   go_wp2
   go_roundg (vs.length - (i+1))
   case measure=>have:=Aa HLT;omega
   case rel=>exact⟨i+1,by go_num,by have:=Aa HLT;omega,by omega,HI2⟩
  ·obtain rfl:i=vs.length:=by omega
   clear hlt hil
   obtain⟨T,hT0,hS⟩:=Aa HI
   have SS:=Ac hS
   clear hS HI
   have hTE:TE T vs vs.length:=⟨fun j' v' hv'=>hT0.el j' v' (List.getElem?_eq_some_iff.1 hv').1 hv',hT0.la⟩
   have hla0:T.last<4000000:=by have:=hT0.la;omega
   have hl2:(h.tab j q T).l.length<=65536:=by rw[Jh];exact hl
   obtain⟨yf,hy64,hyf⟩: ∃yf:Nat,yf<2^64/\nf vs.length=yf:=⟨_,nf_lt hz2,rfl⟩
   have HYF:=Ac hyf
   clear hyf
   have hFn:FD (getD T Zy):=by rw[My (hT0.no Zy (fun j' _ e=>Ye j' e.symm))];exact Qy
   have hFl:FD (Jz (Es yf)):=⟨hy64,show 0<2^64 by decide,show 0<2^64 by decide⟩
   have hFc:FD (Jz Ag):=⟨show 0<2^64 by decide,show 0<2^64 by decide,show 0<2^64 by decide⟩
   have HN:=num_any yf
   go_wp2_with fail
   have hS6:Sy w _ h.blocks [hpO (h.tab j q T),Yj 72 Bm,Al Bd (Jz Ag).cs]:=(Aa SS).drew
   clear SS
   refine wp_region_held_drew (P:=prog) (S:=fun _=>True) (by kernel_rfl) (trivial) (fun hS0=> ?_)
   refine gq 0 (some 29) (.agg #[]) rfl rfl (fun X hX=>ldU rfl rfl) (trivial) ?_
   refine gp 1 (some 30) (.pointer (some ⟨h.b,0,none⟩)) rfl rfl (trivial) ?_
   refine gp 2 (some 31) (.int .i64 ((j:Int)+1)) rfl rfl (trivial) ?_
   refine gq 3 (some 32) (.agg Zy.cs.toArray) rfl rfl (fun X hX=>ex_kc lenS rfl) (trivial) ?_
   refine gp 4 (some 33) (.slice B vs.length c) rfl rfl (trivial) ?_
   refine gq 5 (some 34) (.int .i64 (vs.length:Nat)) rfl rfl (fun X hX=>Dj 22 26 underlying22 rfl rfl) (trivial) ?_
   refine gq 6 (some 35) (.float .f64 yf) rfl rfl (fun X hX=>ex_nfy rfl rfl (Aa HYF)) (trivial) ?_
   refine gr (rs:= [7]) (gc 7 (some 36) rfl rfl (HN _) ?_ gn)
   rintro e Yu1 ⟨rfl,hYu1⟩
   have hqu1:=Sy.on hS6 hYu1
   refine⟨_,rfl,trivial, ?_⟩
   simp only[nn]
   refine gr (rs:= [8]) (gc 8 (some 37) rfl rfl (Zag (Es yf) _) ?_ gn)
   rintro e Yu2 ⟨rfl,hYu2⟩
   have hqu2:=Sy.on hqu1 hYu2
   refine⟨_,rfl,trivial, ?_⟩
   simp only[nn]
   refine gr (rs:= [9]) (gc 9 (some 38) rfl rfl (Zbs (h.tab j q T) j {q with T:=T} Zy (Jz (Es yf)) _ (hqu2.hp 0 rfl) hl2 (Mn hj T) (hT.fr hqu2.fr H.low) (Rg Vr) Vr hFn hFl hla0) ?_ gn)
   rintro e Yu3 ⟨h1,y,rfl,hP,T3⟩
   have hqp:=Sy.heap hqu2 0 rfl T3
   refine⟨_,rfl,trivial, ?_⟩
   refine wpAnyH_done (by kernel_rfl) ?_ _
   try simp only[nn]
   obtain⟨T1,rfl,hte1,hk1⟩:=te_hid (q:={q with T:=T}) (Ln yf) hx Ye (hT0.no Zy (fun j' _ e=>Ye j' e.symm)) hTE hP
   have hno1:lkP (pr T1) Zba=none:=by rw[hk1 Zba cal_len];exact hT0.no Zba (fun j' _ e=>Zbx j' e.symm)
   rw[Xj] at hqp
   have SS:=Ac hqp
   clear hqp hP T3
   have HL:=Zbs (h.tab j q T1) j {q with T:=T1} Zba (Jz Ag)
   simp only[Ec,Em] at HL
   go_wp2_with (first|go_skip|((with_reducible show wpList ..);first|(refine rd rfl (ldU rfl rfl) ?_)|(refine rd rfl (ex_kc calS rfl) ?_)|(refine zL ((Jz Ag).cs) 29 18 2 rwD szD (by rfl) rfl rfl SS rfl rfl rfl ?_;simp only[nn])))
   refine(HL _ ((Aa SS).hp 0 rfl) (by rw[Jh];exact hl) (Mn hj T1) (hT.fr (Aa SS).fr H.low) (Rg Vu) Vu (by rw[My hno1];exact Qy) hFc (by have:=hte1.la;show T1.last<4000000;omega)).mono ?_
   clear HL
   rintro _ Y4 ⟨h2,y2,rfl,hP2,T4⟩
   obtain⟨T2,rfl,hte2, -⟩:=te_hid (q:={q with T:=T1}) Mv hx Zbx hno1 hte1 hP2
   rw[Xj] at T4
   replace SS:=Ac ((Aa SS).heap 0 rfl T4)
   have HT2:=Ac hte2
   clear T4 hP2
   go_wp2
   refine bodyPost_end (results_none rfl _ _ _) rfl ?_
   exact⟨T2,rfl,Aa HT2,HP.To.end H (Aa SS) rfl⟩
end
section
open Go Go.Proofs Go.Maps Go.RowKit FM
attribute [local go_sem] Av Ap Dv Du De Au Ao Az Dd Gu Gt
theorem Da {o:Oper} {a:Act} {w:World} {x0 x1 x2 x3 x4 x5 x6 x7 x8:Operand} {e0 e1 e2 e3 e4 e5 e6 e7 e8:Int} (ho:o.op= .buildSlice 100 9 #[(0,x0),(1,x1),(2,x2),(3,x3),(4,x4),(5,x5),(6,x6),(7,x7),(8,x8)]) (h0:a.eval x0= .int .i64 e0) (h1:a.eval x1= .int .i64 e1) (h2:a.eval x2= .int .i64 e2) (h3:a.eval x3= .int .i64 e3) (h4:a.eval x4= .int .i64 e4) (h5:a.eval x5= .int .i64 e5) (h6:a.eval x6= .int .i64 e6) (h7:a.eval x7= .int .i64 e7) (h8:a.eval x8= .int .i64 e8):(execOp a.eval o).run Tryz.prog w= .ok (.value (.slice (some ⟨w.heap.size,0,none⟩) 9 9)) (w.alloc (Obj.cells (Lq [e0,e1,e2,e3,e4,e5,e6,e7,e8]).toArray 32)):=by
 have e:(Instr.buildSlice 100 9 #[(0, .int .i64 e0),(1, .int .i64 e1),(2, .int .i64 e2),(3, .int .i64 e3),(4, .int .i64 e4),(5, .int .i64 e5),(6, .int .i64 e6),(7, .int .i64 e7),(8, .int .i64 e8)]).run Tryz.prog w= .ok (.slice (some ⟨w.heap.size,0,none⟩) 9 9) (w.alloc (Obj.cells (Lq [e0,e1,e2,e3,e4,e5,e6,e7,e8]).toArray 32)):=by kernel_rfl
 unfold execOp
 simp only[ho,List.map_toArray,List.map_cons,List.map_nil,h0,h1,h2,h3,h4,h5,h6,h7,h8]
 simp[e]
theorem Vp (n:Nat):Aq n Ag=0:=by
 unfold Aq
 rw[Mv]
 rfl
