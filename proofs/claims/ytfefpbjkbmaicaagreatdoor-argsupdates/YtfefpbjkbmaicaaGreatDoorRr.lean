import Derived.Test.YtfefpbjkbmaicaaGreatDoorRi
import Derived.Test.YtfefpbjkbmaicaaGreatDoorRq
set_option linter.all false
namespace Go.Proofs.YtfefpbjkbmaicaaGreatDoor
set_option maxRecDepth 100000
set_option maxHeartbeats 0
section
open Go Go.Proofs Go.Maps Go.RowKit FM
def dN (u:Nat):List Nat:=(Lib.decDigits u).map UInt8.toNat
theorem Up {u:Nat} (h:u<10):dN u= [48+u]:=by
 unfold dN
 rw[Lib.decDigits_one h]
 simp
 omega
theorem ZbL {n e:Nat} (hn:1<=n) (he:e<10):dN (n * 10+e)=dN n++ [48+e]:=by
 unfold dN
 rw[Lib.decDigits,dif_neg (by omega)]
 have h1:(n * 10+e) / 10=n:=by omega
 have h2:(n * 10+e) % 10=e:=by omega
 rw[h1,h2,List.map_append]
 simp
 omega
theorem dN_app (most:Nat): ∀(m:Nat) (l:List Nat),1<=m->m<=most->dgF most (dN m++l) 0=dgF most l m:=by
 intro m
 induction m using Nat.strongRecOn with
 |_ m ih=>
  intro l h1 hm
  by_cases h:m<10
  ·rw[Up h]
   show dgF most ((48+m)::l) 0=_
   rw[dgF,if_neg (by omega),if_neg (by omega)]
   have e:0 * 10+(48+m - 48)=m:=by omega
   rw[e]
  ·have e:=ZbL (n:=m / 10) (e:=m % 10) (by omega) (by omega)
   rw[show m / 10 * 10+m % 10=m by omega] at e
   rw[e,List.append_assoc,ih (m / 10) (by omega) _ (by omega) (by omega)]
   show dgF most ((48+m % 10)::l) _=_
   rw[dgF,if_neg (by omega),if_neg (by omega)]
   have e2:m / 10 * 10+(48+m % 10 - 48)=m:=by omega
   rw[e2]
theorem dN_head: ∀(m:Nat),1<=m-> ∃c r,dN m=c::r/\c≠48:=by
 intro m
 induction m using Nat.strongRecOn with
 |_ m ih=>
  intro h1
  by_cases h:m<10
  ·exact⟨48+m, [],Up h,by omega⟩
  ·have e:=ZbL (n:=m / 10) (e:=m % 10) (by omega) (by omega)
   rw[show m / 10 * 10+m % 10=m by omega] at e
   obtain⟨c,r,h2,h3⟩:=ih (m / 10) (by omega) (by omega)
   exact⟨c,r++ [48+m % 10],by rw[e,h2];rfl,h3⟩
theorem dgV_dN {most m:Nat} (hm:m<=most):dgV most (dN m)=some m:=by
 by_cases h:1<=m
 ·obtain⟨c,r,h1,h2⟩:=dN_head m h
  have e:=dN_app most m [] h hm
  rw[List.append_nil,h1] at e
  rw[h1]
  show (if c=48/\r≠ [] then none else dgF most (c::r) 0)=some m
  rw[if_neg (fun h=>h2 h.1)]
  exact e
 ·obtain rfl:m=0:=by omega
  rw[Up (by omega)]
  simp[dgV,dgF]
def idxK (i:Nat):KK:=⟨Ou i,0⟩
def lenS:ByteArray:=⟨#[108,101,110,103,116,104]⟩
def Zy:KK:=⟨lenS,0⟩
def dval (l:List UInt8):Nat:=l.foldl (fun a c=>10 * a+(c.toNat - 48)) 0
theorem Zas (u:Nat):dval (Lib.decDigits u)=u:=by
 induction u using Nat.strongRecOn with
 |_ u ih=>
  by_cases h:u<10
  ·rw[Lib.decDigits,dif_pos h]
   have:(UInt8.ofNat (48+u)).toNat=48+u:=by simp;omega
   simp only[dval,List.foldl_cons,List.foldl_nil,this]
   omega
  ·rw[Lib.decDigits,dif_neg h]
   have h1:=ih (u / 10) (by omega)
   have:(UInt8.ofNat (48+u % 10)).toNat=48+u % 10:=by simp;omega
   unfold dval at h1 ⊢
   rw[List.foldl_append,h1]
   simp only[List.foldl_cons,List.foldl_nil,this]
   omega
theorem Zbw {i j:Nat} (h:idxK i=idxK j):i=j:=by
 have h1:Ou i=Ou j:=congrArg KK.s h
 have h2:(Lib.decDigits i).toArray=(Lib.decDigits j).toArray:=congrArg ByteArray.data h1
 have h3:Lib.decDigits i=Lib.decDigits j:=congrArg Array.toList h2
 rw[←Zas i,h3,Zas]
theorem Zav (u:Nat): ∃c l,Lib.decDigits u=c::l/\c.toNat<=57:=by
 induction u using Nat.strongRecOn with
 |_ u ih=>
  by_cases h:u<10
  ·refine⟨_, [],by rw[Lib.decDigits,dif_pos h], ?_⟩
   simp;omega
  ·obtain⟨c,l,h1,h2⟩:=ih (u / 10) (by omega)
   refine⟨c,l++ [UInt8.ofNat (48+u % 10)], ?_,h2⟩
   rw[Lib.decDigits,dif_neg h,h1]
   rfl
theorem Ye (i:Nat):idxK i≠Zy:=fun h=>by
 have h1:Ou i=lenS:=congrArg KK.s h
 have h2:(Lib.decDigits i).toArray= #[108,101,110,103,116,104]:=congrArg ByteArray.data h1
 have h3:Lib.decDigits i= [108,101,110,103,116,104]:=congrArg Array.toList h2
 obtain⟨c,l,h4,h5⟩:=Zav i
 rw[h4] at h3
 have h6:c=108:=(List.cons.inj h3).1
 rw[h6] at h5
 exact absurd h5 (by decide)
def opnD (v:VV):DD:=⟨v,Bz,Bz,2,2,2⟩
theorem Kt:thV Bz=false:=by simp[thV,Bz]
theorem Nr:noV Bx=true:=by simp[noV,Df,Bx,Kt]
theorem Qy:FD Bx:=by unfold FD Bx Bz;decide
theorem Zcp (c:Nat) (t:List Nat) (h:c<128):M.dec (c::t)=(c,1):=by
 have hg:M.goD (c::t)=(c,1):=by
  unfold M.goD
  simp[h]
 unfold M.dec
 rw[hg]
 have: ¬(c=65533/\1<=1):=by omega
 simp[this]
 omega
theorem Yp (l:List Nat) (h: ∀c∈l,c<128):M.valid false l=true:=by
 induction l with
 |nil=>rfl
 |cons c t ih=>
  have hc:=h c (List.mem_cons_self ..)
  have hi:M.isHi c=false:=by unfold M.isHi;simp;omega
  rw[M.valid_step false _ (by simp),Zcp c t hc]
  simp[hi]
  exact ih (fun x hx=>h x (List.mem_cons_of_mem _ hx))
theorem dec_mem (u:Nat): ∀c∈Lib.decDigits u,c.toNat<128:=by
 induction u using Nat.strongRecOn with
 |_ u ih=>
  intro c hc
  by_cases h:u<10
  ·rw[Lib.decDigits,dif_pos h] at hc
   rw[List.mem_singleton.1 hc]
   simp;omega
  ·rw[Lib.decDigits,dif_neg h] at hc
   rcases List.mem_append.1 hc with h1|h1
   ·exact ih (u / 10) (by omega) c h1
   ·rw[List.mem_singleton.1 h1]
    simp;omega
theorem dec_len (u:Nat):(Lib.decDigits u).length<=u+1:=by
 induction u using Nat.strongRecOn with
 |_ u ih=>
  by_cases h:u<10
  ·rw[Lib.decDigits,dif_pos h]
   simp
  ·rw[Lib.decDigits,dif_neg h,List.length_append]
   have:=ih (u / 10) (by omega)
   simp
   omega
theorem Kl {u:Nat} (h:u<=1000000):goodK (idxK u)=true:=by
 rw[Ud]
 have h1:(Ou u).size<=1048576:=by
  have:=dec_len u
  show (Lib.decDigits u).toArray.size<=_
  simp
  omega
 have h2:vS (Ou u)=true:=by
  unfold vS
  refine Yp _ (fun c hc=> ?_)
  unfold Dg at hc
  obtain⟨b,hb,rfl⟩:=List.mem_map.1 hc
  exact dec_mem u b hb
 simp[idxK,h1,h2]
theorem Lf {u:Nat} (h:u<=1000000):OkK (idxK u):=Rg (Kl h)
theorem Jx {v:VV} (h:v.good=true):thV v=true:=by
 cases ht:thV v with
 |true=>rfl
 |false=>
  unfold thV at ht
  simp at ht
  obtain⟨⟨⟨⟨h1,h2⟩,h3⟩,h4⟩,h5⟩:=ht
  unfold VV.good Ef inG at h
  simp[h1] at h
theorem Ll {v:VV} (h:v.good=true):Df (opnD v)=2:=by simp[Df,opnD,Jx h,Kt]
theorem Rt {v:VV} (h:v.good=true):Gv (opnD v)=2:=by
 have hs:Gf (opnD v)=true:=by simp[Gf,opnD,Jx h,h,Kf,Kt,Ks,Bz];simp[thV]
 unfold Gv
 rw[hs,Ll h]
 rfl
theorem Rj {v:VV} (h:v.good=true):Vb true Bx (opnD v)=true/\Ee true Bx (opnD v)=opnD v:=by
 have hst:stV Bx=true:=by unfold stV;rw[Nr];rfl
 refine⟨?_, ?_⟩
 ·unfold Vb
  rw[Rt h,hst,Nr]
  rfl
 ·unfold Ee
  rw[Rt h,hst,Nr]
  show Ls (opnD v)=opnD v
  unfold Ls
  rw[Ll h]
  simp[orV,orT,opnD,Jx h]
theorem Qd (l:List (KK×DD)) (k:KK) (d:DD) (k2:KK):lkP (Mt l k d) k2=if k2=k then some d else lkP l k2:=by
 unfold Mt
 by_cases hh:Ux l k=true
 ·rw[if_pos hh]
  induction l with
  |nil=>simp[Ux] at hh
  |cons a l ih=>
   unfold lkP at ih ⊢
   rw[List.map_cons]
   by_cases ha:a.1=k
   ·rw[if_pos ha]
    by_cases h2:k2=k
    ·rw[if_pos h2,List.find?_cons_of_pos (by simp[ha,h2])]
     rfl
    ·rw[if_neg h2,List.find?_cons_of_neg (by simp only[decide_eq_true_eq];rw[ha];exact fun e=>h2 e.symm),List.find?_cons_of_neg (by simp only[decide_eq_true_eq];rw[ha];exact fun e=>h2 e.symm)]
     by_cases hl:Ux l k=true
     ·have:=ih hl
      rw[if_neg h2] at this
      exact this
     ·have:l.map (fun e=>if e.1=k then (e.1,d) else e)=l:=by
       exact(List.map_congr_left (g:=fun x=>x) (fun e he=>if_neg (fun h9=>hl (List.any_eq_true.2 ⟨e,he,by simpa using h9⟩)))).trans (by simp)
      rw[this]
   ·rw[if_neg ha]
    have hl:Ux l k=true:=by
     unfold Ux at hh ⊢
     simpa [ha] using hh
    have h3:=ih hl
    by_cases h4:a.1=k2
    ·rw[List.find?_cons_of_pos (by simpa using h4),List.find?_cons_of_pos (by simpa using h4),if_neg (fun h5=>ha (h4.trans h5))]
    ·rw[List.find?_cons_of_neg (by simpa using h4),List.find?_cons_of_neg (by simpa using h4)]
     exact h3
 ·rw[if_neg hh]
  unfold lkP
  rw[List.find?_append]
  by_cases h2:k2=k
  ·subst h2
   rw[if_pos rfl,List.find?_eq_none.2 (fun e he h9=>hh (List.any_eq_true.2 ⟨e,he,h9⟩))]
   simp
  ·rw[if_neg h2,List.find?_cons_of_neg (by simpa using fun e=>h2 e.symm)]
   simp
theorem Qg {i:Nat} (h:i<=1000000):Nz (Dg (idxK i).s)=some i:=by
 show dgV 4294967294 (dN i)=some i
 exact dgV_dN (by omega)
theorem Lr {i:Nat} (h:i<=1000000):(idxK i).s.size<4611686018427387904:=by
 have:=Om (Kl h)
 omega
def calS:ByteArray:=⟨#[99,97,108,108,101,101]⟩
def Zba:KK:=⟨calS,0⟩
theorem Vr:goodK Zy=true:=by kernel_rfl
theorem Vu:goodK Zba=true:=by kernel_rfl
theorem Zbx (i:Nat):idxK i≠Zba:=fun h=>by
 have h1:Ou i=calS:=congrArg KK.s h
 have h2:(Lib.decDigits i).toArray= #[99,97,108,108,101,101]:=congrArg ByteArray.data h1
 have h3:Lib.decDigits i= [99,97,108,108,101,101]:=congrArg Array.toList h2
 obtain⟨c,l,h4,h5⟩:=Zav i
 rw[h4] at h3
 have h6:c=99:=(List.cons.inj h3).1
 rw[h6] at h5
 exact absurd h5 (by decide)
theorem cal_len:Zba≠Zy:=fun h=>by
 have h1:calS=lenS:=congrArg KK.s h
 have h2:(#[99,97,108,108,101,101]:Array UInt8)= #[108,101,110,103,116,104]:=congrArg ByteArray.data h1
 exact absurd h2 (by decide)
def Jz (v:VV):DD:=⟨v,Bz,Bz,2,1,2⟩
theorem Vs {v:VV} (h:v.good=true):Df (Jz v)=2:=by simp[Df,Jz,Jx h,Kt]
theorem Zah {v:VV} (h:v.good=true):Gv (Jz v)=2:=by
 have hs:Gf (Jz v)=true:=by simp[Gf,Jz,Jx h,h,Kf,Kt,Ks,Bz];simp[thV]
 unfold Gv
 rw[hs,Vs h]
 rfl
theorem ZbO {v:VV} (h:v.good=true):Vb true Bx (Jz v)=true/\Ee true Bx (Jz v)=Jz v:=by
 have hst:stV Bx=true:=by unfold stV;rw[Nr];rfl
 refine⟨?_, ?_⟩
 ·unfold Vb
  rw[Zah h,hst,Nr]
  rfl
 ·unfold Ee
  rw[Zah h,hst,Nr]
  show Ls (Jz v)=Jz v
  unfold Ls
  rw[Vs h]
  simp[orV,orT,Jz,Jx h]
theorem opn_st {v:VV} (h:v.good=true):stV (opnD v)=true/\noV (opnD v)=false:=by
 have h1:noV (opnD v)=false:=by unfold noV;rw[Ll h];rfl
 refine⟨?_,h1⟩
 unfold stV Od
 rw[h1,Rt h]
 simp[opnD,Jx h]
theorem app_on {v:VV} {d:DD} {x:Bool} (h:v.good=true) (hd:Eh d=0):Vb x (opnD v) d=true/\Ee x (opnD v) d=Mj (opnD v) d:=by
 have hk:(Gv d==0)=false:=by
  unfold Eh at hd
  split at hd
  ·cases hd
  ·rename_i h1
   simpa using h1
 unfold Vb Ee
 rw[hk,(opn_st h).1,(opn_st h).2]
 exact⟨rfl,rfl⟩
def Mm (v:VV):DD:=⟨v,Bz,Bz,0,0,0⟩
theorem Ve {v:VV} (h:v.good=true):Df (Mm v)=2:=by simp[Df,Mm,Jx h,Kt]
theorem Zbj {v:VV} (h:v.good=true):Eh (Mm v)=0:=by
 have hs:Gf (Mm v)=true:=by simp[Gf,Mm,Jx h,h,Kf,Kt,Ks,Bz];simp[thV]
 unfold Eh Gv
 rw[hs,Ve h]
 rfl
theorem ZbN {u v:VV} (hu:u.good=true) (h:v.good=true):Mj (opnD u) (Mm v)=opnD v:=by
 unfold Mj Er
 rw[Ve h,Ll hu]
 simp[orV,orT,Mm,opnD,Jx h,Kt]
theorem bec_data {u:VV} {d:DD} (hu:u.good=true) (hs:Df d=2) (hv:thV d.v=true):(Mj (opnD u) d).v=d.v/\(Mj (opnD u) d).g.k=0:=by
 have hg:thV d.g=false/\thV d.s=false:=by
  unfold Df at hs
  rw[hv] at hs
  cases h1:thV d.g<;>cases h2:thV d.s<;>simp[h1,h2] at hs
  exact⟨rfl,rfl⟩
 unfold Mj Er
 rw[hs,Ll hu]
 simp[orV,hv,hg.1,opnD,Bz]
structure TI (T:TT) (vs:List VV) (i:Nat):Prop where
 el: ∀j v,j<i->vs[j]? =some v->lkP (pr T) (idxK j)=some (opnD v)
 no: ∀k,(∀j,j<i->k≠idxK j)->lkP (pr T) k=none
 la:T.last<=i
theorem ti_zero {T:TT} {vs:List VV} (h:pr T= []) (hl:T.last=0):TI T vs 0:=⟨fun j v hj=>by omega,fun k _=>by rw[h];rfl,by omega⟩
theorem My {T:TT} {k:KK} (h:lkP (pr T) k=none):getD T k=Bx:=by rw[pr_get,h];rfl
theorem Zbr {T:TT} {k:KK} {d:DD} (h:lkP (pr T) k=some d):getD T k=d/\(T.find k).isSome=true:=by
 refine⟨by rw[pr_get,h];rfl, ?_⟩
 rw[←ZaO,←lk_has,h]
 rfl
theorem Ys {T:TT} {vs:List VV} {i:Nat} (h:TI T vs i):lkP (pr T) (idxK i)=none:=h.no _ (fun j hj e=>by have:=Zbw e;omega)
theorem ti_step {h h1:HP} {j:Nat} {q:OB} {vs:List VV} {i:Nat} {v:VV} {y:Bool} (hv:vs[i]? =some v) (hg:v.good=true) (hx:q.x=true) (ht:TI q.T vs i) (hP:Vc h j q (idxK i) (opnD v) h1 y): ∃T':TT,h1=h.tab j q T'/\TI T' vs (i+1):=by
 unfold Vc at hP
 rw[My (Ys ht),hx,(Rj hg).1,(Rj hg).2] at hP
 obtain⟨rfl,hP⟩:=hP
 rcases hP with ⟨h0,_⟩|⟨_,T',rfl,hla,hpr⟩
 ·cases h0
 refine⟨T',rfl,fun j' v' hj' hv'=> ?_,fun k hk=> ?_,by have:=ht.la;omega⟩
 ·rw[hpr,Qd]
  by_cases e:idxK j'=idxK i
  ·rw[if_pos e]
   obtain rfl:=Zbw e
   rw[hv] at hv'
   cases hv'
   rfl
  ·rw[if_neg e]
   refine ht.el j' v' ?_ hv'
   have:j'≠i:=fun h9=>e (by rw[h9])
   omega
 ·rw[hpr,Qd,if_neg (hk i (Nat.lt_succ_self i))]
  exact ht.no k (fun j' hj'=>hk j' (by omega))
structure TE (T:TT) (vs:List VV) (n:Nat):Prop where
 el: ∀j v,vs[j]? =some v->lkP (pr T) (idxK j)=some (opnD v)
 la:T.last<=n
theorem te_hid {h h1:HP} {j n:Nat} {q:OB} {vs:List VV} {k:KK} {v:VV} {y:Bool} (hg:v.good=true) (hx:q.x=true) (hk: ∀i,idxK i≠k) (h0:lkP (pr q.T) k=none) (ht:TE q.T vs n) (hP:Vc h j q k (Jz v) h1 y): ∃T':TT,h1=h.tab j q T'/\TE T' vs (n+1)/\ ∀k2,k2≠k->lkP (pr T') k2=lkP (pr q.T) k2:=by
 unfold Vc at hP
 rw[My h0,hx,(ZbO hg).1,(ZbO hg).2] at hP
 obtain⟨rfl,hP⟩:=hP
 rcases hP with ⟨h0,_⟩|⟨_,T',rfl,hla,hpr⟩
 ·cases h0
 refine⟨T',rfl,⟨fun j' v' hv'=> ?_,by have:=ht.la;omega⟩,fun k2 h2=>by rw[hpr,Qd,if_neg h2]⟩
 rw[hpr,Qd,if_neg (hk j')]
 exact ht.el j' v' hv'
theorem Ln (x:Nat):(⟨4,false,x,ByteArray.empty,0⟩:VV).good=true:=by
 simp[VV.good,Ef,Lx,inG]
end
section
open Go Go.Proofs Go.Maps Go.RowKit FM
attribute [local go_sem] Av Ap Dv Du De Au Ao Az Dd Gu Gt
theorem Zco (h:HP) (o:Int) (k:KK) (w:World) (H:h.Is w) (hl:h.l.length<=65536) (hT:Tabs w) (P:HP->Bool->Value->Prop) (hC: ∀(j:Nat) (q:OB) (X:World),o=(j:Int)+1->h.l[j]? =some q->orE [thE o h.l.length,Dh k]=0->h.To h w X->Calls Tryz.prog 46 #[.pointer (some ⟨h.b,0,none⟩), .int .i64 ((j:Int)+1),k.agg] X fun e w'=> ∃(h1:HP) (y:Bool) (er:Value),e= .returned (.tuple #[.bool y,er])/\P h1 y er/\h.To h1 X w'):Calls Tryz.prog 13 #[.pointer (some ⟨h.b,0,none⟩), .int .i64 o,k.agg] w fun e w'=> ∃(h1:HP) (y:Bool) (er:Value),e= .returned (.tuple #[.bool y,er])/\((orE [thE o h.l.length,Dh k]≠0/\er=La (orE [thE o h.l.length,Dh k])/\h1=h/\y=false)∨(orE [thE o h.l.length,Dh k]=0/\P h1 y er))/\h.To h1 w w':=by
 have SS:=Ac H.start
 rw[Ec]
 go_enter Tryz.func13,Tryz.ntmps13
 go_wp2_with (first|go_skip|((with_reducible show wpList ..);first|(refine zB 42 (k.cs) (by rfl) rfl rfl rfl SS ?_;clear SS;intro Xp0 Bp0 SS;simp only[nn])))
 have kt:=fun {X:World} (s:h.Is X)=>Pa h o X s
 have kk:=fun {X:World} (s:Fr w X h.blocks)=>Qe k X (hT.fr s H.low).1
 have ko:=fun {X:World} {B:Nat} (g:Holds X B (Lq [thE o h.l.length,Dh k]))=>Dc B 2 [thE o h.l.length,Dh k] X g (by simp)
 have hS1:Sy w _ h.blocks [hpO h,Al Bp0 k.cs]:=(Aa SS).drew
 clear SS
 refine Je (fun a a' X=> ∃(v14:Value),a'=((((((((a.put (some 9) (.pointer (some ⟨h.b,0,none⟩))).put (some 10) (.int .i64 o)).put (some 11) (.int .i64 (thE o h.l.length))).put (some 12) (.agg k.cs.toArray)).put (some 13) (.int .i64 (Dh k))).put (some 14) v14).put (some 15) (.int .i64 (orE [thE o h.l.length,Dh k]))).put (some 8) (.int .i64 (orE [thE o h.l.length,Dh k])))/\Sy w X h.blocks [hpO h,Al Bp0 k.cs]) ?_ ?_
 ·refine wp_region_held_drew (P:=Tryz.prog) (S:=fun X=>Sy w X h.blocks _) (by kernel_rfl) (hS1) (fun hS0=> ?_)
  refine gp 0 (some 9) (.pointer (some ⟨h.b,0,none⟩)) rfl rfl (hS1) ?_
  refine gp 1 (some 10) (.int .i64 o) rfl rfl (hS1) ?_
  refine gq 3 (some 12) (.agg k.cs.toArray) rfl rfl (fun X hX=>Ax (vs:=k.cs) 42 2 rwK szK rfl rfl (hX.hold 1 rfl) rfl rfl) (hS1) ?_
  refine gr (rs:= [2]) (gcW 2 (some 11) rfl rfl (hS1) (kt (hS1.hp 0 rfl)) ?_ gn)
  simp only[nn]
  refine gr (rs:= [4]) (gcB 4 (some 13) rfl rfl hS1 (kk hS1.fr) id ?_ gn)
  intro Yt2 hqt2
  simp only[nn]
  refine gr (rs:= [5]) (Ar 5 (some 14) rfl rfl (by kernel_rfl) (ZbD rfl rfl rfl) (Nat.succ_pos _) hqt2 (fun _ hZ=>Sy.left (L:= [_,_]) (M:= [_]) hZ) ?_ gn)
  intro Yt3 Bt3 hEt3 hqt3
  clear hEt3
  simp only[nn]
  refine gr (rs:= [6]) (gcW 6 (some 15) rfl rfl (Sy.left (L:= [_,_]) (M:= [_]) hqt3) (ko (hqt3.hold 2 rfl)) ?_ gn)
  refine gp 7 (some 8) (.int .i64 (orE [thE o h.l.length,Dh k])) rfl rfl (Sy.left (L:= [_,_]) (M:= [_]) hqt3) ?_
  refine wpAnyH_done (by kernel_rfl) ?_ _
  try simp only[nn]
  exact pN ⟨_,rfl,Sy.left (L:= [_,_]) (M:= [_]) hqt3⟩
 ·rintro a' X ⟨v14,rfl,hS9⟩
  simp only[nn]
  have SS:=Ac hS9
  clear hS9
  by_cases hc:orE [thE o h.l.length,Dh k]=0
  ·obtain⟨j,q,ho_,hj⟩:=Ra (h:=h) (o:=o) (En hc (thE o h.l.length) (by simp))
   have HO_:=Ac ho_
   clear ho_
   go_wp2_with (first|go_skip|((with_reducible show wpList ..);first|(refine rd rfl (Kz rfl rfl rfl hc) ?_)|(refine zL (k.cs) 42 2 1 rwK szK (by rfl) rfl rfl SS rfl rfl rfl ?_;simp only[nn])))
   have HC:=hC j q _ (Aa HO_) hj hc (HP.To.end H (Aa SS) rfl)
   rw[Ec] at HC
   rw[←Aa HO_] at HC
   refine HC.mono ?_
   rintro _ Y9 ⟨h1,y,er,rfl,hP,T9⟩
   replace SS:=Ac ((Aa SS).heap 0 rfl T9)
   have hb9:h1.b=h.b:=T9.hb
   clear T9 HC
   go_wp2
   go_ret2
   exact⟨h1,y,er,rfl, .inr ⟨hc,hP⟩,HP.To.end H (Aa SS) hb9⟩
  ·go_wp2_with (first|go_skip|((with_reducible show wpList ..);first|(refine rd rfl (Ky rfl rfl rfl hc) ?_)))
   go_ret2
   exact⟨h,false,_,rfl, .inl ⟨hc,rfl,rfl,rfl⟩,HP.To.end H (Aa SS) rfl⟩
theorem dorGet (h:HP) (o:Int) (k:KK) (r:VV) (w:World) (H:h.Is w) (hl:h.l.length<=65536) (hT:Tabs w) (P:HP->VV->Value->Prop) (hC: ∀(j:Nat) (q:OB) (X:World),o=(j:Int)+1->h.l[j]? =some q->orE [thE o h.l.length,Dh k,Af [r],By h.l.length [r]]=0->h.To h w X->Calls Tryz.prog 47 #[.pointer (some ⟨h.b,0,none⟩), .int .i64 ((j:Int)+1),k.agg,r.agg] X fun e w'=> ∃(h1:HP) (V:VV) (er:Value),e= .returned (.tuple #[V.agg,er])/\P h1 V er/\h.To h1 X w'):Calls Tryz.prog 16 #[.pointer (some ⟨h.b,0,none⟩), .int .i64 o,k.agg,r.agg] w fun e w'=> ∃(h1:HP) (V:VV) (er:Value),e= .returned (.tuple #[V.agg,er])/\((orE [thE o h.l.length,Dh k,Af [r],By h.l.length [r]]≠0/\er=La (orE [thE o h.l.length,Dh k,Af [r],By h.l.length [r]])/\h1=h)∨(orE [thE o h.l.length,Dh k,Af [r],By h.l.length [r]]=0/\P h1 V er))/\h.To h1 w w':=by
 have SS:=Ac H.start
 rw[Ec,Dk]
 go_enter Tryz.func16,Tryz.ntmps16
 go_wp2_with (first|go_skip|((with_reducible show wpList ..);first|(refine zB 42 (k.cs) (by rfl) rfl rfl rfl SS ?_;clear SS;intro Xp0 Bp0 SS;simp only[nn])|(refine zB 26 (r.cs) (by rfl) rfl rfl rfl SS ?_;clear SS;intro Xp1 Bp1 SS;simp only[nn])|(refine zA 26 (Bz.cs) (by rfl) rfl SS ?_;clear SS;intro Xc Bc SS;simp only[nn])))
 have kt:=fun {X:World} (s:h.Is X)=>Pa h o X s
 have kk:=fun {X:World} (s:Fr w X h.blocks)=>Qe k X (hT.fr s H.low).1
 have ks:=fun {X:World} {B:Nat} (s:Fr w X h.blocks) (g:Holds X B ([r].flatMap VV.cs))=>Zbk (some ⟨B,0,none⟩) 1 [r] X (hT.fr s H.low).1 (Ah g) (by simp)
 have kn:=fun {X:World} {B:Nat} (s:h.Is X) (g:Holds X B ([r].flatMap VV.cs))=>Rd h (some ⟨B,0,none⟩) 1 [r] X s (Ah g) (by simp)
 have ko:=fun {X:World} {B:Nat} (g:Holds X B (Lq [thE o h.l.length,Dh k,Af [r],By h.l.length [r]]))=>Dc B 4 [thE o h.l.length,Dh k,Af [r],By h.l.length [r]] X g (by simp)
 have hS1:Sy w _ h.blocks [hpO h,Al Bp0 k.cs,Al Bp1 r.cs,Al Bc Bz.cs]:=(Aa SS).drew
 clear SS
 refine Je (fun a a' X=> ∃(v17 v21 v23:Value),a'=(((((((((((((((a.put (some 11) (.pointer (some ⟨h.b,0,none⟩))).put (some 12) (.int .i64 o)).put (some 13) (.int .i64 (thE o h.l.length))).put (some 14) (.agg k.cs.toArray)).put (some 15) (.int .i64 (Dh k))).put (some 16) (.agg (r.cs).toArray)).put (some 17) v17).put (some 18) (.int .i64 (Af [r]))).put (some 19) (.pointer (some ⟨h.b,0,none⟩))).put (some 20) (.agg (r.cs).toArray)).put (some 21) v21).put (some 22) (.int .i64 (By h.l.length [r]))).put (some 23) v23).put (some 24) (.int .i64 (orE [thE o h.l.length,Dh k,Af [r],By h.l.length [r]]))).put (some 10) (.int .i64 (orE [thE o h.l.length,Dh k,Af [r],By h.l.length [r]])))/\Sy w X h.blocks [hpO h,Al Bp0 k.cs,Al Bp1 r.cs,Al Bc Bz.cs]) ?_ ?_
 ·have cu: ∀{X:World} {M:List Ob},Sy w X h.blocks ([hpO h,Al Bp0 k.cs,Al Bp1 r.cs,Al Bc Bz.cs]++M)->Sy w X h.blocks [hpO h,Al Bp0 k.cs,Al Bp1 r.cs,Al Bc Bz.cs]:=fun h=>Sy.left h
  refine wp_region_held_drew (P:=Tryz.prog) (S:=fun X=>Sy w X h.blocks _) (by kernel_rfl) (hS1) (fun hS0=> ?_)
  refine gp 0 (some 11) (.pointer (some ⟨h.b,0,none⟩)) rfl rfl (hS1) ?_
  refine gp 1 (some 12) (.int .i64 o) rfl rfl (hS1) ?_
  refine gq 3 (some 14) (.agg k.cs.toArray) rfl rfl (fun X hX=>Ax (vs:=k.cs) 42 2 rwK szK rfl rfl (hX.hold 1 rfl) rfl rfl) (hS1) ?_
  refine gq 5 (some 16) (.agg (r.cs).toArray) rfl rfl (fun X hX=>Ax (vs:=r.cs) 26 5 rwV szV rfl rfl (hX.hold 2 rfl) rfl rfl) (hS1) ?_
  refine gp 8 (some 19) (.pointer (some ⟨h.b,0,none⟩)) rfl rfl (hS1) ?_
  refine gq 9 (some 20) (.agg (r.cs).toArray) rfl rfl (fun X hX=>Ax (vs:=r.cs) 26 5 rwV szV rfl rfl (hX.hold 2 rfl) rfl rfl) (hS1) ?_
  refine gr (rs:= [2,6,10]) (gcW 2 (some 13) rfl rfl (hS1) (kt (hS1.hp 0 rfl)) ?_ (Ar 6 (some 17) rfl rfl (by kernel_rfl) (Bi rfl rfl) (Nat.succ_pos _) hS1 (fun _ hZ=>cu hZ) ?_ (Ar 10 (some 21) rfl rfl (by kernel_rfl) (Bi rfl rfl) (Nat.succ_pos _) hS1 (fun _ hZ=>cu hZ) ?_ gn)))
  ·simp only[nn]
   refine gr (rs:= [4,6,10]) (gcB 4 (some 15) rfl rfl hS1 (kk hS1.fr) id ?_ (Ar 6 (some 17) rfl rfl (by kernel_rfl) (Bi rfl rfl) (Nat.succ_pos _) hS1 (fun _ hZ=>cu hZ) ?_ (Ar 10 (some 21) rfl rfl (by kernel_rfl) (Bi rfl rfl) (Nat.succ_pos _) hS1 (fun _ hZ=>cu hZ) ?_ gn)))
   ·intro Yt2 hqt2
    simp only[nn]
    refine gr (rs:= [6,10]) (Ar 6 (some 17) rfl rfl (by kernel_rfl) (Bi rfl rfl) (Nat.succ_pos _) hqt2 (fun _ hZ=>cu hZ) ?_ (Ar 10 (some 21) rfl rfl (by kernel_rfl) (Bi rfl rfl) (Nat.succ_pos _) hqt2 (fun _ hZ=>cu hZ) ?_ gn))
    ·intro Yt3 Bt3 hEt3 hqt3
     clear hEt3
     simp only[nn]
     refine gr (rs:= [7,10]) (gcB 7 (some 18) rfl rfl hqt3 (ks hqt3.fr (hqt3.hold 4 rfl)) (fun x=>cu x) ?_ (Ar 10 (some 21) rfl rfl (by kernel_rfl) (Bi rfl rfl) (Nat.succ_pos _) hqt3 (fun _ hZ=>cu hZ) ?_ gn))
     ·intro Yt4 hqt4
      simp only[nn]
      refine gr (rs:= [10]) (Ar 10 (some 21) rfl rfl (by kernel_rfl) (Bi rfl rfl) (Nat.succ_pos _) hqt4 (fun _ hZ=>cu hZ) ?_ gn)
      intro Yt5 Bt5 hEt5 hqt5
      clear hEt5
      simp only[nn]
      refine gr (rs:= [11]) (gcB 11 (some 22) rfl rfl hqt5 (kn (hqt5.hp 0 rfl) (hqt5.hold 5 rfl)) (fun x=>cu x) ?_ gn)
      intro Yt6 hqt6
      simp only[nn]
      refine gr (rs:= [12]) (Ar 12 (some 23) rfl rfl (by kernel_rfl) (Dr rfl rfl rfl rfl rfl) (Nat.succ_pos _) hqt6 (fun _ hZ=>cu hZ) ?_ gn)
      intro Yt7 Bt7 hEt7 hqt7
      clear hEt7
      simp only[nn]
      refine gr (rs:= [13]) (gcW 13 (some 24) rfl rfl (cu hqt7) (ko (hqt7.hold 6 rfl)) ?_ gn)
      refine gp 14 (some 10) (.int .i64 (orE [thE o h.l.length,Dh k,Af [r],By h.l.length [r]])) rfl rfl (cu hqt7) ?_
      refine wpAnyH_done (by kernel_rfl) ?_ _
      try simp only[nn]
      exact pN ⟨_,_,_,rfl,cu hqt7⟩
     ·intro Yt9 Bt9 hEt9 hqt9
      clear hEt9
      simp only[nn]
      refine gr (rs:= [7]) (gcB 7 (some 18) rfl rfl hqt9 (ks hqt9.fr (hqt9.hold 4 rfl)) (fun x=>cu x) ?_ gn)
      intro Yt10 hqt10
      simp only[nn]
      refine gr (rs:= [11]) (gcB 11 (some 22) rfl rfl hqt10 (kn (hqt10.hp 0 rfl) (hqt10.hold 5 rfl)) (fun x=>cu x) ?_ gn)
      intro Yt11 hqt11
      simp only[nn]
      refine gr (rs:= [12]) (Ar 12 (some 23) rfl rfl (by kernel_rfl) (Dr rfl rfl rfl rfl rfl) (Nat.succ_pos _) hqt11 (fun _ hZ=>cu hZ) ?_ gn)
      intro Yt12 Bt12 hEt12 hqt12
      clear hEt12
      simp only[nn]
      refine gr (rs:= [13]) (gcW 13 (some 24) rfl rfl (cu hqt12) (ko (hqt12.hold 6 rfl)) ?_ gn)
      refine gp 14 (some 10) (.int .i64 (orE [thE o h.l.length,Dh k,Af [r],By h.l.length [r]])) rfl rfl (cu hqt12) ?_
      refine wpAnyH_done (by kernel_rfl) ?_ _
      try simp only[nn]
      exact pN ⟨_,_,_,rfl,cu hqt12⟩
    ·intro Yt14 Bt14 hEt14 hqt14
     clear hEt14
     simp only[nn]
     refine gr (rs:= [6]) (Ar 6 (some 17) rfl rfl (by kernel_rfl) (Bi rfl rfl) (Nat.succ_pos _) hqt14 (fun _ hZ=>cu hZ) ?_ gn)
     intro Yt15 Bt15 hEt15 hqt15
     clear hEt15
     simp only[nn]
     refine gr (rs:= [7]) (gcB 7 (some 18) rfl rfl hqt15 (ks hqt15.fr (hqt15.hold 5 rfl)) (fun x=>cu x) ?_ gn)
     intro Yt16 hqt16
     simp only[nn]
     refine gr (rs:= [11]) (gcB 11 (some 22) rfl rfl hqt16 (kn (hqt16.hp 0 rfl) (hqt16.hold 4 rfl)) (fun x=>cu x) ?_ gn)
     intro Yt17 hqt17
     simp only[nn]
     refine gr (rs:= [12]) (Ar 12 (some 23) rfl rfl (by kernel_rfl) (Dr rfl rfl rfl rfl rfl) (Nat.succ_pos _) hqt17 (fun _ hZ=>cu hZ) ?_ gn)
     intro Yt18 Bt18 hEt18 hqt18
     clear hEt18
     simp only[nn]
     refine gr (rs:= [13]) (gcW 13 (some 24) rfl rfl (cu hqt18) (ko (hqt18.hold 6 rfl)) ?_ gn)
     refine gp 14 (some 10) (.int .i64 (orE [thE o h.l.length,Dh k,Af [r],By h.l.length [r]])) rfl rfl (cu hqt18) ?_
     refine wpAnyH_done (by kernel_rfl) ?_ _
     try simp only[nn]
     exact pN ⟨_,_,_,rfl,cu hqt18⟩
   ·intro Yt20 Bt20 hEt20 hqt20
    clear hEt20
    simp only[nn]
    refine gr (rs:= [4,10]) (gcB 4 (some 15) rfl rfl hqt20 (kk hqt20.fr) (fun x=>cu x) ?_ (Ar 10 (some 21) rfl rfl (by kernel_rfl) (Bi rfl rfl) (Nat.succ_pos _) hqt20 (fun _ hZ=>cu hZ) ?_ gn))
    ·intro Yt21 hqt21
     simp only[nn]
     refine gr (rs:= [7,10]) (gcB 7 (some 18) rfl rfl hqt21 (ks hqt21.fr (hqt21.hold 4 rfl)) (fun x=>cu x) ?_ (Ar 10 (some 21) rfl rfl (by kernel_rfl) (Bi rfl rfl) (Nat.succ_pos _) hqt21 (fun _ hZ=>cu hZ) ?_ gn))
     ·intro Yt22 hqt22
      simp only[nn]
      refine gr (rs:= [10]) (Ar 10 (some 21) rfl rfl (by kernel_rfl) (Bi rfl rfl) (Nat.succ_pos _) hqt22 (fun _ hZ=>cu hZ) ?_ gn)
      intro Yt23 Bt23 hEt23 hqt23
      clear hEt23
      simp only[nn]
      refine gr (rs:= [11]) (gcB 11 (some 22) rfl rfl hqt23 (kn (hqt23.hp 0 rfl) (hqt23.hold 5 rfl)) (fun x=>cu x) ?_ gn)
      intro Yt24 hqt24
      simp only[nn]
      refine gr (rs:= [12]) (Ar 12 (some 23) rfl rfl (by kernel_rfl) (Dr rfl rfl rfl rfl rfl) (Nat.succ_pos _) hqt24 (fun _ hZ=>cu hZ) ?_ gn)
      intro Yt25 Bt25 hEt25 hqt25
      clear hEt25
      simp only[nn]
      refine gr (rs:= [13]) (gcW 13 (some 24) rfl rfl (cu hqt25) (ko (hqt25.hold 6 rfl)) ?_ gn)
      refine gp 14 (some 10) (.int .i64 (orE [thE o h.l.length,Dh k,Af [r],By h.l.length [r]])) rfl rfl (cu hqt25) ?_
      refine wpAnyH_done (by kernel_rfl) ?_ _
      try simp only[nn]
      exact pN ⟨_,_,_,rfl,cu hqt25⟩
     ·intro Yt27 Bt27 hEt27 hqt27
      clear hEt27
      simp only[nn]
      refine gr (rs:= [7]) (gcB 7 (some 18) rfl rfl hqt27 (ks hqt27.fr (hqt27.hold 4 rfl)) (fun x=>cu x) ?_ gn)
      intro Yt28 hqt28
      simp only[nn]
      refine gr (rs:= [11]) (gcB 11 (some 22) rfl rfl hqt28 (kn (hqt28.hp 0 rfl) (hqt28.hold 5 rfl)) (fun x=>cu x) ?_ gn)
      intro Yt29 hqt29
      simp only[nn]
      refine gr (rs:= [12]) (Ar 12 (some 23) rfl rfl (by kernel_rfl) (Dr rfl rfl rfl rfl rfl) (Nat.succ_pos _) hqt29 (fun _ hZ=>cu hZ) ?_ gn)
      intro Yt30 Bt30 hEt30 hqt30
      clear hEt30
      simp only[nn]
      refine gr (rs:= [13]) (gcW 13 (some 24) rfl rfl (cu hqt30) (ko (hqt30.hold 6 rfl)) ?_ gn)
      refine gp 14 (some 10) (.int .i64 (orE [thE o h.l.length,Dh k,Af [r],By h.l.length [r]])) rfl rfl (cu hqt30) ?_
      refine wpAnyH_done (by kernel_rfl) ?_ _
      try simp only[nn]
      exact pN ⟨_,_,_,rfl,cu hqt30⟩
    ·intro Yt32 Bt32 hEt32 hqt32
     clear hEt32
     simp only[nn]
     refine gr (rs:= [4]) (gcB 4 (some 15) rfl rfl hqt32 (kk hqt32.fr) (fun x=>cu x) ?_ gn)
     intro Yt33 hqt33
     simp only[nn]
     refine gr (rs:= [7]) (gcB 7 (some 18) rfl rfl hqt33 (ks hqt33.fr (hqt33.hold 4 rfl)) (fun x=>cu x) ?_ gn)
     intro Yt34 hqt34
     simp only[nn]
     refine gr (rs:= [11]) (gcB 11 (some 22) rfl rfl hqt34 (kn (hqt34.hp 0 rfl) (hqt34.hold 5 rfl)) (fun x=>cu x) ?_ gn)
     intro Yt35 hqt35
     simp only[nn]
     refine gr (rs:= [12]) (Ar 12 (some 23) rfl rfl (by kernel_rfl) (Dr rfl rfl rfl rfl rfl) (Nat.succ_pos _) hqt35 (fun _ hZ=>cu hZ) ?_ gn)
     intro Yt36 Bt36 hEt36 hqt36
     clear hEt36
     simp only[nn]
     refine gr (rs:= [13]) (gcW 13 (some 24) rfl rfl (cu hqt36) (ko (hqt36.hold 6 rfl)) ?_ gn)
     refine gp 14 (some 10) (.int .i64 (orE [thE o h.l.length,Dh k,Af [r],By h.l.length [r]])) rfl rfl (cu hqt36) ?_
     refine wpAnyH_done (by kernel_rfl) ?_ _
     try simp only[nn]
     exact pN ⟨_,_,_,rfl,cu hqt36⟩
   ·intro Yt38 Bt38 hEt38 hqt38
    clear hEt38
    simp only[nn]
    refine gr (rs:= [4,6]) (gcB 4 (some 15) rfl rfl hqt38 (kk hqt38.fr) (fun x=>cu x) ?_ (Ar 6 (some 17) rfl rfl (by kernel_rfl) (Bi rfl rfl) (Nat.succ_pos _) hqt38 (fun _ hZ=>cu hZ) ?_ gn))
    ·intro Yt39 hqt39
     simp only[nn]
     refine gr (rs:= [6]) (Ar 6 (some 17) rfl rfl (by kernel_rfl) (Bi rfl rfl) (Nat.succ_pos _) hqt39 (fun _ hZ=>cu hZ) ?_ gn)
     intro Yt40 Bt40 hEt40 hqt40
     clear hEt40
     simp only[nn]
     refine gr (rs:= [7]) (gcB 7 (some 18) rfl rfl hqt40 (ks hqt40.fr (hqt40.hold 5 rfl)) (fun x=>cu x) ?_ gn)
     intro Yt41 hqt41
     simp only[nn]
     refine gr (rs:= [11]) (gcB 11 (some 22) rfl rfl hqt41 (kn (hqt41.hp 0 rfl) (hqt41.hold 4 rfl)) (fun x=>cu x) ?_ gn)
     intro Yt42 hqt42
     simp only[nn]
     refine gr (rs:= [12]) (Ar 12 (some 23) rfl rfl (by kernel_rfl) (Dr rfl rfl rfl rfl rfl) (Nat.succ_pos _) hqt42 (fun _ hZ=>cu hZ) ?_ gn)
     intro Yt43 Bt43 hEt43 hqt43
     clear hEt43
     simp only[nn]
     refine gr (rs:= [13]) (gcW 13 (some 24) rfl rfl (cu hqt43) (ko (hqt43.hold 6 rfl)) ?_ gn)
     refine gp 14 (some 10) (.int .i64 (orE [thE o h.l.length,Dh k,Af [r],By h.l.length [r]])) rfl rfl (cu hqt43) ?_
     refine wpAnyH_done (by kernel_rfl) ?_ _
     try simp only[nn]
     exact pN ⟨_,_,_,rfl,cu hqt43⟩
    ·intro Yt45 Bt45 hEt45 hqt45
     clear hEt45
     simp only[nn]
     refine gr (rs:= [4]) (gcB 4 (some 15) rfl rfl hqt45 (kk hqt45.fr) (fun x=>cu x) ?_ gn)
     intro Yt46 hqt46
     simp only[nn]
     refine gr (rs:= [7]) (gcB 7 (some 18) rfl rfl hqt46 (ks hqt46.fr (hqt46.hold 5 rfl)) (fun x=>cu x) ?_ gn)
     intro Yt47 hqt47
     simp only[nn]
     refine gr (rs:= [11]) (gcB 11 (some 22) rfl rfl hqt47 (kn (hqt47.hp 0 rfl) (hqt47.hold 4 rfl)) (fun x=>cu x) ?_ gn)
     intro Yt48 hqt48
     simp only[nn]
     refine gr (rs:= [12]) (Ar 12 (some 23) rfl rfl (by kernel_rfl) (Dr rfl rfl rfl rfl rfl) (Nat.succ_pos _) hqt48 (fun _ hZ=>cu hZ) ?_ gn)
     intro Yt49 Bt49 hEt49 hqt49
     clear hEt49
     simp only[nn]
     refine gr (rs:= [13]) (gcW 13 (some 24) rfl rfl (cu hqt49) (ko (hqt49.hold 6 rfl)) ?_ gn)
     refine gp 14 (some 10) (.int .i64 (orE [thE o h.l.length,Dh k,Af [r],By h.l.length [r]])) rfl rfl (cu hqt49) ?_
     refine wpAnyH_done (by kernel_rfl) ?_ _
     try simp only[nn]
     exact pN ⟨_,_,_,rfl,cu hqt49⟩
  ·intro Yt51 Bt51 hEt51 hqt51
   clear hEt51
   simp only[nn]
   refine gr (rs:= [2,10]) (gcW 2 (some 13) rfl rfl (cu hqt51) (kt (hqt51.hp 0 rfl)) ?_ (Ar 10 (some 21) rfl rfl (by kernel_rfl) (Bi rfl rfl) (Nat.succ_pos _) hqt51 (fun _ hZ=>cu hZ) ?_ gn))
   ·simp only[nn]
    refine gr (rs:= [4,10]) (gcB 4 (some 15) rfl rfl hqt51 (kk hqt51.fr) (fun x=>cu x) ?_ (Ar 10 (some 21) rfl rfl (by kernel_rfl) (Bi rfl rfl) (Nat.succ_pos _) hqt51 (fun _ hZ=>cu hZ) ?_ gn))
    ·intro Yt53 hqt53
     simp only[nn]
     refine gr (rs:= [7,10]) (gcB 7 (some 18) rfl rfl hqt53 (ks hqt53.fr (hqt53.hold 4 rfl)) (fun x=>cu x) ?_ (Ar 10 (some 21) rfl rfl (by kernel_rfl) (Bi rfl rfl) (Nat.succ_pos _) hqt53 (fun _ hZ=>cu hZ) ?_ gn))
     ·intro Yt54 hqt54
      simp only[nn]
      refine gr (rs:= [10]) (Ar 10 (some 21) rfl rfl (by kernel_rfl) (Bi rfl rfl) (Nat.succ_pos _) hqt54 (fun _ hZ=>cu hZ) ?_ gn)
      intro Yt55 Bt55 hEt55 hqt55
      clear hEt55
      simp only[nn]
      refine gr (rs:= [11]) (gcB 11 (some 22) rfl rfl hqt55 (kn (hqt55.hp 0 rfl) (hqt55.hold 5 rfl)) (fun x=>cu x) ?_ gn)
      intro Yt56 hqt56
      simp only[nn]
      refine gr (rs:= [12]) (Ar 12 (some 23) rfl rfl (by kernel_rfl) (Dr rfl rfl rfl rfl rfl) (Nat.succ_pos _) hqt56 (fun _ hZ=>cu hZ) ?_ gn)
      intro Yt57 Bt57 hEt57 hqt57
      clear hEt57
      simp only[nn]
      refine gr (rs:= [13]) (gcW 13 (some 24) rfl rfl (cu hqt57) (ko (hqt57.hold 6 rfl)) ?_ gn)
      refine gp 14 (some 10) (.int .i64 (orE [thE o h.l.length,Dh k,Af [r],By h.l.length [r]])) rfl rfl (cu hqt57) ?_
      refine wpAnyH_done (by kernel_rfl) ?_ _
      try simp only[nn]
      exact pN ⟨_,_,_,rfl,cu hqt57⟩
     ·intro Yt59 Bt59 hEt59 hqt59
      clear hEt59
      simp only[nn]
      refine gr (rs:= [7]) (gcB 7 (some 18) rfl rfl hqt59 (ks hqt59.fr (hqt59.hold 4 rfl)) (fun x=>cu x) ?_ gn)
      intro Yt60 hqt60
      simp only[nn]
      refine gr (rs:= [11]) (gcB 11 (some 22) rfl rfl hqt60 (kn (hqt60.hp 0 rfl) (hqt60.hold 5 rfl)) (fun x=>cu x) ?_ gn)
      intro Yt61 hqt61
      simp only[nn]
      refine gr (rs:= [12]) (Ar 12 (some 23) rfl rfl (by kernel_rfl) (Dr rfl rfl rfl rfl rfl) (Nat.succ_pos _) hqt61 (fun _ hZ=>cu hZ) ?_ gn)
      intro Yt62 Bt62 hEt62 hqt62
      clear hEt62
      simp only[nn]
      refine gr (rs:= [13]) (gcW 13 (some 24) rfl rfl (cu hqt62) (ko (hqt62.hold 6 rfl)) ?_ gn)
      refine gp 14 (some 10) (.int .i64 (orE [thE o h.l.length,Dh k,Af [r],By h.l.length [r]])) rfl rfl (cu hqt62) ?_
      refine wpAnyH_done (by kernel_rfl) ?_ _
      try simp only[nn]
      exact pN ⟨_,_,_,rfl,cu hqt62⟩
    ·intro Yt64 Bt64 hEt64 hqt64
     clear hEt64
     simp only[nn]
     refine gr (rs:= [4]) (gcB 4 (some 15) rfl rfl hqt64 (kk hqt64.fr) (fun x=>cu x) ?_ gn)
     intro Yt65 hqt65
     simp only[nn]
     refine gr (rs:= [7]) (gcB 7 (some 18) rfl rfl hqt65 (ks hqt65.fr (hqt65.hold 4 rfl)) (fun x=>cu x) ?_ gn)
     intro Yt66 hqt66
     simp only[nn]
     refine gr (rs:= [11]) (gcB 11 (some 22) rfl rfl hqt66 (kn (hqt66.hp 0 rfl) (hqt66.hold 5 rfl)) (fun x=>cu x) ?_ gn)
     intro Yt67 hqt67
     simp only[nn]
     refine gr (rs:= [12]) (Ar 12 (some 23) rfl rfl (by kernel_rfl) (Dr rfl rfl rfl rfl rfl) (Nat.succ_pos _) hqt67 (fun _ hZ=>cu hZ) ?_ gn)
     intro Yt68 Bt68 hEt68 hqt68
     clear hEt68
     simp only[nn]
     refine gr (rs:= [13]) (gcW 13 (some 24) rfl rfl (cu hqt68) (ko (hqt68.hold 6 rfl)) ?_ gn)
     refine gp 14 (some 10) (.int .i64 (orE [thE o h.l.length,Dh k,Af [r],By h.l.length [r]])) rfl rfl (cu hqt68) ?_
     refine wpAnyH_done (by kernel_rfl) ?_ _
     try simp only[nn]
     exact pN ⟨_,_,_,rfl,cu hqt68⟩
   ·intro Yt70 Bt70 hEt70 hqt70
    clear hEt70
    simp only[nn]
    refine gr (rs:= [2]) (gcW 2 (some 13) rfl rfl (cu hqt70) (kt (hqt70.hp 0 rfl)) ?_ gn)
    simp only[nn]
    refine gr (rs:= [4]) (gcB 4 (some 15) rfl rfl hqt70 (kk hqt70.fr) (fun x=>cu x) ?_ gn)
    intro Yt72 hqt72
    simp only[nn]
    refine gr (rs:= [7]) (gcB 7 (some 18) rfl rfl hqt72 (ks hqt72.fr (hqt72.hold 4 rfl)) (fun x=>cu x) ?_ gn)
    intro Yt73 hqt73
    simp only[nn]
    refine gr (rs:= [11]) (gcB 11 (some 22) rfl rfl hqt73 (kn (hqt73.hp 0 rfl) (hqt73.hold 5 rfl)) (fun x=>cu x) ?_ gn)
    intro Yt74 hqt74
    simp only[nn]
    refine gr (rs:= [12]) (Ar 12 (some 23) rfl rfl (by kernel_rfl) (Dr rfl rfl rfl rfl rfl) (Nat.succ_pos _) hqt74 (fun _ hZ=>cu hZ) ?_ gn)
    intro Yt75 Bt75 hEt75 hqt75
    clear hEt75
    simp only[nn]
    refine gr (rs:= [13]) (gcW 13 (some 24) rfl rfl (cu hqt75) (ko (hqt75.hold 6 rfl)) ?_ gn)
    refine gp 14 (some 10) (.int .i64 (orE [thE o h.l.length,Dh k,Af [r],By h.l.length [r]])) rfl rfl (cu hqt75) ?_
    refine wpAnyH_done (by kernel_rfl) ?_ _
    try simp only[nn]
    exact pN ⟨_,_,_,rfl,cu hqt75⟩
  ·intro Yt77 Bt77 hEt77 hqt77
   clear hEt77
   simp only[nn]
   refine gr (rs:= [2,6]) (gcW 2 (some 13) rfl rfl (cu hqt77) (kt (hqt77.hp 0 rfl)) ?_ (Ar 6 (some 17) rfl rfl (by kernel_rfl) (Bi rfl rfl) (Nat.succ_pos _) hqt77 (fun _ hZ=>cu hZ) ?_ gn))
   ·simp only[nn]
    refine gr (rs:= [4,6]) (gcB 4 (some 15) rfl rfl hqt77 (kk hqt77.fr) (fun x=>cu x) ?_ (Ar 6 (some 17) rfl rfl (by kernel_rfl) (Bi rfl rfl) (Nat.succ_pos _) hqt77 (fun _ hZ=>cu hZ) ?_ gn))
    ·intro Yt79 hqt79
     simp only[nn]
     refine gr (rs:= [6]) (Ar 6 (some 17) rfl rfl (by kernel_rfl) (Bi rfl rfl) (Nat.succ_pos _) hqt79 (fun _ hZ=>cu hZ) ?_ gn)
     intro Yt80 Bt80 hEt80 hqt80
     clear hEt80
     simp only[nn]
     refine gr (rs:= [7]) (gcB 7 (some 18) rfl rfl hqt80 (ks hqt80.fr (hqt80.hold 5 rfl)) (fun x=>cu x) ?_ gn)
     intro Yt81 hqt81
     simp only[nn]
     refine gr (rs:= [11]) (gcB 11 (some 22) rfl rfl hqt81 (kn (hqt81.hp 0 rfl) (hqt81.hold 4 rfl)) (fun x=>cu x) ?_ gn)
     intro Yt82 hqt82
     simp only[nn]
     refine gr (rs:= [12]) (Ar 12 (some 23) rfl rfl (by kernel_rfl) (Dr rfl rfl rfl rfl rfl) (Nat.succ_pos _) hqt82 (fun _ hZ=>cu hZ) ?_ gn)
     intro Yt83 Bt83 hEt83 hqt83
     clear hEt83
     simp only[nn]
     refine gr (rs:= [13]) (gcW 13 (some 24) rfl rfl (cu hqt83) (ko (hqt83.hold 6 rfl)) ?_ gn)
     refine gp 14 (some 10) (.int .i64 (orE [thE o h.l.length,Dh k,Af [r],By h.l.length [r]])) rfl rfl (cu hqt83) ?_
     refine wpAnyH_done (by kernel_rfl) ?_ _
     try simp only[nn]
     exact pN ⟨_,_,_,rfl,cu hqt83⟩
    ·intro Yt85 Bt85 hEt85 hqt85
     clear hEt85
     simp only[nn]
     refine gr (rs:= [4]) (gcB 4 (some 15) rfl rfl hqt85 (kk hqt85.fr) (fun x=>cu x) ?_ gn)
     intro Yt86 hqt86
     simp only[nn]
     refine gr (rs:= [7]) (gcB 7 (some 18) rfl rfl hqt86 (ks hqt86.fr (hqt86.hold 5 rfl)) (fun x=>cu x) ?_ gn)
     intro Yt87 hqt87
     simp only[nn]
     refine gr (rs:= [11]) (gcB 11 (some 22) rfl rfl hqt87 (kn (hqt87.hp 0 rfl) (hqt87.hold 4 rfl)) (fun x=>cu x) ?_ gn)
     intro Yt88 hqt88
     simp only[nn]
     refine gr (rs:= [12]) (Ar 12 (some 23) rfl rfl (by kernel_rfl) (Dr rfl rfl rfl rfl rfl) (Nat.succ_pos _) hqt88 (fun _ hZ=>cu hZ) ?_ gn)
     intro Yt89 Bt89 hEt89 hqt89
     clear hEt89
     simp only[nn]
     refine gr (rs:= [13]) (gcW 13 (some 24) rfl rfl (cu hqt89) (ko (hqt89.hold 6 rfl)) ?_ gn)
     refine gp 14 (some 10) (.int .i64 (orE [thE o h.l.length,Dh k,Af [r],By h.l.length [r]])) rfl rfl (cu hqt89) ?_
     refine wpAnyH_done (by kernel_rfl) ?_ _
     try simp only[nn]
     exact pN ⟨_,_,_,rfl,cu hqt89⟩
   ·intro Yt91 Bt91 hEt91 hqt91
    clear hEt91
    simp only[nn]
    refine gr (rs:= [2]) (gcW 2 (some 13) rfl rfl (cu hqt91) (kt (hqt91.hp 0 rfl)) ?_ gn)
    simp only[nn]
    refine gr (rs:= [4]) (gcB 4 (some 15) rfl rfl hqt91 (kk hqt91.fr) (fun x=>cu x) ?_ gn)
    intro Yt93 hqt93
    simp only[nn]
    refine gr (rs:= [7]) (gcB 7 (some 18) rfl rfl hqt93 (ks hqt93.fr (hqt93.hold 5 rfl)) (fun x=>cu x) ?_ gn)
    intro Yt94 hqt94
    simp only[nn]
    refine gr (rs:= [11]) (gcB 11 (some 22) rfl rfl hqt94 (kn (hqt94.hp 0 rfl) (hqt94.hold 4 rfl)) (fun x=>cu x) ?_ gn)
    intro Yt95 hqt95
    simp only[nn]
    refine gr (rs:= [12]) (Ar 12 (some 23) rfl rfl (by kernel_rfl) (Dr rfl rfl rfl rfl rfl) (Nat.succ_pos _) hqt95 (fun _ hZ=>cu hZ) ?_ gn)
    intro Yt96 Bt96 hEt96 hqt96
    clear hEt96
    simp only[nn]
    refine gr (rs:= [13]) (gcW 13 (some 24) rfl rfl (cu hqt96) (ko (hqt96.hold 6 rfl)) ?_ gn)
    refine gp 14 (some 10) (.int .i64 (orE [thE o h.l.length,Dh k,Af [r],By h.l.length [r]])) rfl rfl (cu hqt96) ?_
    refine wpAnyH_done (by kernel_rfl) ?_ _
    try simp only[nn]
    exact pN ⟨_,_,_,rfl,cu hqt96⟩
 ·rintro a' X ⟨v17,v21,v23,rfl,hS9⟩
  simp only[nn]
  have SS:=Ac hS9
  clear hS9
  by_cases hc:orE [thE o h.l.length,Dh k,Af [r],By h.l.length [r]]=0
  ·obtain⟨j,q,ho_,hj⟩:=Ra (h:=h) (o:=o) (En hc (thE o h.l.length) (by simp))
   have HO_:=Ac ho_
   clear ho_
   go_wp2_with (first|go_skip|((with_reducible show wpList ..);first|(refine rd rfl (Kz rfl rfl rfl hc) ?_)|(refine zL (k.cs) 42 2 1 rwK szK (by rfl) rfl rfl SS rfl rfl rfl ?_;simp only[nn])|(refine zL (r.cs) 26 5 2 rwV szV (by rfl) rfl rfl SS rfl rfl rfl ?_;simp only[nn])))
   have HC:=hC j q _ (Aa HO_) hj hc (HP.To.end H (Aa SS) rfl)
   rw[Ec,Dk] at HC
   rw[←Aa HO_] at HC
   refine HC.mono ?_
   rintro _ Y9 ⟨h1,V,er,rfl,hP,T9⟩
   replace SS:=Ac ((Aa SS).heap 0 rfl T9)
   have hb9:h1.b=h.b:=T9.hb
   clear T9 HC
   rw[Dk]
   go_wp2_with (first|go_skip|((with_reducible show wpList ..);first|(refine zS (V.cs) 3 26 (by rfl) rfl rfl rfl rfl (Eb _) szV SS rfl ?_;clear SS;intro Xy SS;simp only[nn])))
   refine bodyPost_ret (Mo rwV szV rfl rfl rfl ((Aa SS).hold 3 rfl) rfl) rfl ?_
   exact⟨h1,V,er,rfl, .inr ⟨hc,hP⟩,HP.To.end H (Aa SS) hb9⟩
  ·go_wp2_with (first|go_skip|((with_reducible show wpList ..);first|(refine rd rfl (Ky rfl rfl rfl hc) ?_)|(refine rd rfl (ex_zeroV rfl) ?_)|(refine zS (Bz.cs) 3 26 (by rfl) rfl rfl rfl rfl (Eb _) szV SS rfl ?_;clear SS;intro Xz SS;simp only[nn])))
   refine bodyPost_ret (Mo rwV szV rfl rfl rfl ((Aa SS).hold 3 rfl) rfl) rfl ?_
   exact⟨h,Bz,_,rfl, .inl ⟨hc,rfl,rfl⟩,HP.To.end H (Aa SS) rfl⟩
