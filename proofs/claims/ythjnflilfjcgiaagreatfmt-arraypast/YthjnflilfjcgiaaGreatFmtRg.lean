import Derived.Test.YthjnflilfjcgiaaGreatFmtRf
set_option linter.all false
namespace Go.Proofs.YthjnflilfjcgiaaGreatFmt
set_option maxRecDepth 100000
set_option maxHeartbeats 0
section
open Go Go.Proofs Go.Maps Go.RowKit FM
attribute [local go_sem] Ad Ag Ak Df Bi Ae Bg
def Qi (n:Nat):DD:=⟨Ee (nf n),Be,Be,2,0,0⟩
def Jb (n:Nat):DD:=⟨Ee (nf n),Be,Be,2,1,1⟩
theorem La (x:Nat):(Ee x).good=true:=by simp[VV.good,Ke,Uf,Ee,inG]
theorem Jq (x:Nat):thV (Ee x)=true:=by simp[thV,Ee]
theorem Gd:thV Be=false:=by simp[thV,Be]
theorem Yb (n:Nat):Bu (Qi n)=2:=by simp[Bu,Qi,Jq,Gd]
theorem ZaF (n:Nat):Gb (Qi n)=2:=by
 have hs:Ge (Qi n)=true:=by simp[Ge,Qi,Jq,La,Mu,Gd,Pd,Be];simp[thV]
 unfold Gb
 rw[hs,Yb]
 rfl
theorem Ko:noV Ap=true:=by simp[noV,Bu,Ap,Gd]
theorem ZcC (n:Nat):Rl true Ap (Qi n)=true/\Du true Ap (Qi n)=Jb n:=by
 have hst:stV Ap=true:=by unfold stV;rw[Ko];rfl
 refine⟨?_, ?_⟩
 ·unfold Rl
  rw[ZaF,hst,Ko]
  rfl
 ·unfold Du
  rw[ZaF,hst,Ko]
  show Lf (Qi n)=Jb n
  unfold Lf
  rw[Yb]
  simp[orV,orT,Qi,Jb,Jq]
theorem ex_raw {o:Oper} {a:Act} {w:World} {x y:Operand} {n:Nat} (ho:o.op= .build 53 #[(0,x),(3,y)]) (hx:a.eval x=(Ee (nf n)).agg) (hy:a.eval y= .int .i64 2):(execOp a.eval o).run Tryz.prog w= .ok (.value (.agg (Qi n).cs.toArray)) w:=by
 have e:(Instr.build 53 #[(0,(Ee (nf n)).agg),(3, .int .i64 2)]).run Tryz.prog w= .ok (.agg (Qi n).cs.toArray) w:=by kernel_rfl
 unfold execOp
 simp only[ho,List.map_toArray,List.map_cons,List.map_nil,hx,hy]
 simp[e]
theorem get_nil {T:TT} (h:pr T= []) (k:KK):getD T k=Ap:=by
 rw[Zi,h]
 rfl
theorem ZaT (h:HP) (gv:Value) (q:OB) (T':TT):(h.more gv q).tab h.l.length q T'=h.more gv {q with T:=T'}:=by
 unfold HP.tab HP.more
 simp
theorem Yh (h:HP) (gv:Value) (q:OB):(h.more gv q).l[h.l.length]? =some q:=by
 unfold HP.more
 simp
theorem Ys:FD Ap:=by unfold FD Ap Be;decide
theorem raw_FD {n:Nat} (h:n<=2000∨n=4294967295):FD (Qi n):=⟨nf_lt h,show 0<2^64 by decide,show 0<2^64 by decide⟩
theorem aadd_h (h:HP) (v:VV) (n:Nat) (w:World) (H:h.Is w) (hT:Tabs w) (hl:h.l.length<=65535) (hc:orE [Di h.l.length v,Gv v,Kd h]=0) (hn:n<=2000∨n=4294967295):Calls Tryz.prog 31 #[.pointer (some ⟨h.b,0,none⟩),v.agg, .int .u32 (n:Nat)] w fun e w'=> ∃(gv:Value) (q:OB),e= .returned (.tuple #[.int .i64 ((h.l.length:Int)+1), .nilIface])/\q.c=3/\q.p=v/\q.x=true/\pr q.T= [(Bm,Jb n)]/\q.T.last<=1/\h.To (h.more gv q) w w':=by
 have SS:=Ab H.start
 rw[Kg]
 go_enter Tryz.func31,Tryz.ntmps31
 go_wp2_with (first|go_skip|((with_reducible show wpList ..);first|(refine zB 35 (v.cs) (by rfl) rfl rfl rfl SS ?_;clear SS;intro Xa Ba SS;simp only[nn])|(refine zL (v.cs) 35 5 1 rwV szV (by rfl) rfl rfl SS rfl rfl rfl ?_;simp only[nn])|(refine rd rfl (Zcu rfl) ?_)))
 have HC:=add_h h v _ ((Aa SS).hp 0 rfl) (hT.fr (Aa SS).fr H.low) (by omega)
 rw[Kg] at HC
 refine HC.mono ?_
 clear HC
 rintro _ Y (⟨rfl,hc1,T1⟩|⟨hc1,gv,q,rfl,a1,a2,a3,a4,a5,T1⟩)
 ·exact absurd hc hc1
 ·replace SS:=Ab ((Aa SS).heap 0 rfl T1)
  have hb1:(h.more gv q).b=h.b:=T1.hb
  clear T1
  go_wp2_with fail
  refine(Gn _).mono ?_
  rintro _ Y1 ⟨rfl,k1⟩
  replace SS:=Ab ((Aa SS).on k1)
  clear k1
  go_wp2_with (first|go_skip|((with_reducible show wpList ..);first|(refine rd rfl (Ev rfl rfl) ?_)))
  refine(Dy (nf n) _).mono ?_
  rintro _ Y2 ⟨rfl,k2⟩
  replace SS:=Ab ((Aa SS).on k2)
  clear k2
  go_wp2_with (first|go_skip|((with_reducible show wpList ..);first|(refine rd rfl (ex_raw rfl rfl rfl) ?_)|(refine rd rfl (Zcu rfl) ?_)))
  have T0:h.To (h.more gv q) w _:=HP.To.end H (Aa SS) hb1
  have hz:getD q.T Bm=Ap:=get_nil a4 _
  have HL:=Zcl (h.more gv q) h.l.length q Bm (Qi n) _ ((Aa SS).hp 0 rfl) (by show (h.l++ [q]).length<=65536;simp;omega) (Yh h gv q) (T0.tabs H hT) Ks Gp (by rw[hz];exact Ys) (raw_FD hn) (by rw[a5];decide)
  rw[Vp,hb1] at HL
  refine HL.mono ?_
  clear HL
  rintro _ Y3 ⟨h1,y,rfl,hP,T3⟩
  have HX:=Ab (T0.trans T3)
  clear T0 T3 SS
  unfold Zap at hP
  rw[hz,a3,(ZcC n).1,(ZcC n).2] at hP
  obtain⟨rfl,hP⟩:=hP
  rcases hP with ⟨h0,_⟩|⟨_,T',rfl,hla,hpr⟩
  ·cases h0
  ·rw[ZaT] at HX
   have HR:=Ab (And.intro hla hpr)
   clear hla hpr
   go_wp2
   go_ret2
   exact⟨gv,{q with T:=T'},rfl,a1,a2,a3,(by rw[(Aa HR).2,a4];rfl),(by have:=(Aa HR).1;rw[a5] at this;exact this),Aa HX⟩
def knE (n:Nat) (vs:List VV):Int:=orE (vs.map (Di n))
theorem kn_get {n:Nat} {vs:List VV} {i:Nat} {v:VV} (h: ∀j u,j<i->vs[j]? =some u->Di n u=0) (hv:vs[i]? =some v) (h0:Di n v≠0):knE n vs=Di n v:=by
 refine Zl _ i _ (fun j u hj hu=> ?_) ?_ h0
 ·rw[List.getElem?_map] at hu
  obtain⟨x,hx,rfl⟩:=Option.map_eq_some_iff.1 hu
  exact h j x hj hx
 ·rw[List.getElem?_map,hv]
  rfl
theorem kn_none {n:Nat} {vs:List VV} (h: ∀j u,j<vs.length->vs[j]? =some u->Di n u=0):knE n vs=0:=by
 refine Uk _ (fun j u hj hu=> ?_)
 rw[List.getElem?_map] at hu
 obtain⟨x,hx,rfl⟩:=Option.map_eq_some_iff.1 hu
 exact h j x (by simpa using hj) hx
theorem aknown_h (h:HP) (B:Option Addr) (c:Nat) (vs:List VV) (w:World) (H:h.Is w) (hT:Lib.Utf8Tabs 4 5 w) (hR:Qw w B vs) (hz:vs.length<=1000000):Calls Tryz.prog 30 #[.pointer (some ⟨h.b,0,none⟩), .slice B vs.length c] w fun e w'=>e= .returned (.int .i64 (knE h.l.length vs))/\Below w.heap.size w w':=by
 have SS:=Ab (Sy.nil w [])
 have HH:=Ab H
 clear H
 have HT:=Ab hT
 clear hT
 have HR:=Ab hR
 have HZ:=Ab hz
 clear hR hz
 go_enter Tryz.func30,Tryz.ntmps30
 go_wp2_with (first|go_skip|((with_reducible show wpList ..);first|(refine rd rfl (Bp 22 35 Tryz.underlying22 rfl rfl) ?_)))
 go_loopg [10] vs.length (fun gm s10 wr=> ∃i:Nat,s10= .int .i64 (i:Nat)/\i<=vs.length/\vs.length - i<=gm/\Hid (∀j v,j<i->vs[j]? =some v->Di h.l.length v=0)/\Hid (Sy w wr [] []))
 case atStart=>exact⟨0,rfl,by omega,by omega,Ab (fun j v hj=>by omega),SS⟩
 case round=>
  clear SS
  obtain⟨i,rfl,hil,hgm,HD,SS⟩:=hrel
  by_cases hlt:i<vs.length
  ·have dlt:decide ((i:Int)<(vs.length:Int))=true:=decide_eq_true (by omega)
   have hw1:IntKind.i64.wrap ((i:Int)+1)=(i:Int)+1:=by have:=Aa HZ;rw[IntKind.wrap_i64];omega
   obtain⟨v,hv⟩: ∃v,vs[i]? =some v:=⟨_,List.getElem?_eq_getElem hlt⟩
   obtain⟨b,off,hA,hb,hrg⟩:=(Aa HR) i v hv
   subst hA
   have HA2:Hid (∀X,Below w.heap.size w X->X.rangeAt b (off+i * 5) v.cs):=Ab (fun X hX=>Kx hrg hb hX)
   have HLT:=Ab hlt
   clear hb hrg hlt hil
   by_cases h0:Di h.l.length v=0
   ·have HD2:Hid (∀j u,j<i+1->vs[j]? =some u->Di h.l.length u=0):=Ab (fun j u hj hu=>by
     rcases Nat.lt_or_ge j i with h|h
     ·exact Aa HD j u h hu
     ·obtain rfl:j=i:=by omega
      obtain rfl:v=u:=Option.some.inj (hv.symm.trans hu)
      exact h0)
    clear HD
    go_wp2_with (first|go_skip|((with_reducible show wpList ..);first|(refine rd rfl (Bp 22 35 Tryz.underlying22 rfl rfl) ?_)|(refine rd rfl (Ed 22 5 i Zat Za2 rfl rfl rfl (Aa HLT)) ?_)|(refine rd rfl (Gx (vs:=v.cs) 35 5 rwV szV rfl rfl (Aa HA2 _ (Aa SS).fr.below) rfl) ?_)|(refine zA 35 (Be.cs) (by rfl) rfl SS ?_;clear SS;intro X3 B3 SS;simp only[nn])|(refine zS (v.cs) 0 35 (by rfl) rfl rfl rfl rfl (Na v) szV SS rfl ?_;clear SS;intro X4 SS;simp only[nn])|(refine zL (v.cs) 35 5 0 rwV szV (by rfl) rfl rfl SS rfl rfl rfl ?_;simp only[nn])))
    have HO:=Mp h v _ ((Aa HH).on (Aa SS).fr.below) (Ao (Aa HT) (Aa SS).fr.below)
    rw[Kg] at HO
    refine HO.mono ?_
    rintro e X5 ⟨rfl,hb5⟩
    replace SS:=Ab ((Aa SS).on hb5)
    clear hb5 HO
    replace SS:=Ab (Sy.left (L:= []) (M:= [_]) (Aa SS))
    go_wp2_with (first|go_skip|((with_reducible show wpList ..);first|(refine rd rfl (Mm rfl rfl rfl h0) ?_)))
    go_roundg (vs.length - (i+1))
    case measure=>have:=Aa HLT;omega
    case rel=>exact⟨i+1,by go_num,by have:=Aa HLT;omega,by omega,HD2,SS⟩
   ·have HE:=Ab (kn_get (Aa HD) hv h0)
    clear HD
    go_wp2_with (first|go_skip|((with_reducible show wpList ..);first|(refine rd rfl (Bp 22 35 Tryz.underlying22 rfl rfl) ?_)|(refine rd rfl (Ed 22 5 i Zat Za2 rfl rfl rfl (Aa HLT)) ?_)|(refine rd rfl (Gx (vs:=v.cs) 35 5 rwV szV rfl rfl (Aa HA2 _ (Aa SS).fr.below) rfl) ?_)|(refine zA 35 (Be.cs) (by rfl) rfl SS ?_;clear SS;intro X3 B3 SS;simp only[nn])|(refine zS (v.cs) 0 35 (by rfl) rfl rfl rfl rfl (Na v) szV SS rfl ?_;clear SS;intro X4 SS;simp only[nn])|(refine zL (v.cs) 35 5 0 rwV szV (by rfl) rfl rfl SS rfl rfl rfl ?_;simp only[nn])))
    have HO:=Mp h v _ ((Aa HH).on (Aa SS).fr.below) (Ao (Aa HT) (Aa SS).fr.below)
    rw[Kg] at HO
    refine HO.mono ?_
    rintro e X5 ⟨rfl,hb5⟩
    replace SS:=Ab ((Aa SS).on hb5)
    clear hb5 HO
    go_wp2_with (first|go_skip|((with_reducible show wpList ..);first|(refine rd rfl (Pz rfl rfl rfl h0) ?_)))
    go_ret
    exact⟨by rw[Aa HE];rfl,(Aa SS).fr.below⟩
  ·obtain rfl:i=vs.length:=by omega
   have HE:=Ab (kn_none (Aa HD))
   clear hlt hil HD
   go_wp2_with (first|go_skip|((with_reducible show wpList ..);first|(refine rd rfl (Bp 22 35 Tryz.underlying22 rfl rfl) ?_)))
   go_ret
   exact⟨by rw[Aa HE];rfl,(Aa SS).fr.below⟩
def Dg:VV:=⟨2,false,0,ByteArray.empty,0⟩
theorem Zc0:Dg.good=true:=by simp[VV.good,Ke,Uf,Dg,inG]
theorem On (n:Nat):Di n Dg=0:=by
 unfold Di
 rw[Zc0]
 simp[Az,Jc,Dg]
theorem or_kn (n:Nat) (vs:List VV):orE [Di n Dg,0,knE n vs]=knE n vs:=by
 rw[On]
 simp[orE]
 exact fun h=>h.symm
end
section
open Go Go.Proofs Go.Maps Go.RowKit FM
def De (i:Nat):KK:=⟨Mg i,0⟩
def dval (l:List UInt8):Nat:=l.foldl (fun a c=>10 * a+(c.toNat - 48)) 0
theorem Zbe (u:Nat):dval (Lib.decDigits u)=u:=by
 induction u using Nat.strongRecOn with
 |_ u ih=>
  by_cases h:u<10
  ·rw[Lib.decDigits,dif_pos h]
   have:(UInt8.ofNat (48+u)).toNat=48+u:=by simp;omega
   simp only[dval,List.foldl_cons,List.foldl_nil,this]
   omega
  ·rw[Lib.decDigits,dif_neg h]
   have h1:=ih (u / 10) (by omega)
   have:(UInt8.ofNat (48+u % 10)).toNat=48+u % 10:=by simp;omega
   unfold dval at h1 ⊢
   rw[List.foldl_append,h1]
   simp only[List.foldl_cons,List.foldl_nil,this]
   omega
theorem Ry {i j:Nat} (h:De i=De j):i=j:=by
 have h1:Mg i=Mg j:=congrArg KK.s h
 have h2:(Lib.decDigits i).toArray=(Lib.decDigits j).toArray:=congrArg ByteArray.data h1
 have h3:Lib.decDigits i=Lib.decDigits j:=congrArg Array.toList h2
 rw[←Zbe i,h3,Zbe]
theorem dec_head (u:Nat): ∃c l,Lib.decDigits u=c::l/\c.toNat<=57:=by
 induction u using Nat.strongRecOn with
 |_ u ih=>
  by_cases h:u<10
  ·refine⟨_, [],by rw[Lib.decDigits,dif_pos h], ?_⟩
   simp;omega
  ·obtain⟨c,l,h1,h2⟩:=ih (u / 10) (by omega)
   refine⟨c,l++ [UInt8.ofNat (48+u % 10)], ?_,h2⟩
   rw[Lib.decDigits,dif_neg h,h1]
   rfl
theorem Pv (i:Nat):De i≠Bm:=fun h=>by
 have h1:Mg i=lenS:=congrArg KK.s h
 have h2:(Lib.decDigits i).toArray= #[108,101,110,103,116,104]:=congrArg ByteArray.data h1
 have h3:Lib.decDigits i= [108,101,110,103,116,104]:=congrArg Array.toList h2
 obtain⟨c,l,h4,h5⟩:=dec_head i
 rw[h4] at h3
 have h6:c=108:=(List.cons.inj h3).1
 rw[h6] at h5
 exact absurd h5 (by decide)
def Kn (v:VV):DD:=⟨v,Be,Be,2,2,2⟩
def Qv (n:Nat) (vs:List VV):List (KK×DD):=(Bm,Jb n)::vs.mapIdx (fun i v=>(De i,Kn v))
theorem arr_mem {n:Nat} {vs:List VV} {e:KK×DD} (h:e∈Qv n vs):e=(Bm,Jb n)∨ ∃i v,vs[i]? =some v/\e=(De i,Kn v):=by
 rcases List.mem_cons.1 h with h|h
 ·exact .inl h
 ·obtain⟨i,hi,he⟩:=List.mem_mapIdx.1 h
  exact .inr ⟨i,vs[i],List.getElem?_eq_getElem hi,he.symm⟩
theorem Zbp {n:Nat} {vs:List VV} {i:Nat} (h:vs.length<=i):Pw (Qv n vs) (De i)=false:=by
 unfold Pw
 rw[List.any_eq_false]
 intro e he
 rcases arr_mem he with rfl|⟨j,v,hj,rfl⟩
 ·simp
  exact fun h=>Pv i h.symm
 ·simp
  intro hh
  have:=Ry hh
  have:=(List.getElem?_eq_some_iff.1 hj).1
  omega
theorem arr_put (n:Nat) (vs:List VV) (v:VV):ZaH (Qv n vs) (De vs.length) (Kn v)=Qv n (vs++ [v]):=by
 unfold ZaH
 rw[Zbp (Nat.le_refl _)]
 unfold Qv
 rw[List.mapIdx_append]
 simp
theorem lk_of {l:List (KK×DD)} {k:KK} (h:Pw l k=false):lkP l k=none:=by
 have:=lk_has l k
 rw[h] at this
 exact Option.isNone_iff_eq_none.1 (by cases hx:lkP l k with|none=>rfl|some _=>rw[hx] at this;cases this)
theorem Qd {T:TT} {n:Nat} {vs:List VV} {i:Nat} (hT:pr T=Qv n vs) (h:vs.length<=i):getD T (De i)=Ap:=by
 rw[Zi,hT,lk_of (Zbp h)]
 rfl
