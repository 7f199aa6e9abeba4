import Derived.Test.YtieahhciibdnaaaGreatDoorRi
import Derived.Test.YtieahhciibdnaaaGreatDoorRj
import Derived.Test.YtieahhciibdnaaaGreatDoorRl
set_option linter.all false
namespace Go.Proofs.YtieahhciibdnaaaGreatDoor
set_option maxRecDepth 100000
set_option maxHeartbeats 0
section
open Go Go.Proofs Go.Maps Go.RowKit FM Tryz
attribute [local go_sem] Ak Ae Aq Dl Dk Bl Af Aj Ad Bj Et Es
theorem app_c {n d:DD} (hb:ZaR false n d=true) (hc:n.c=1):(Du false n d).c=1:=by
 unfold ZaR at hb
 unfold Du
 cases h1:(Gt d==0|| !stV n)
 ·have h2:noV n=false:=by
   unfold noV
   rw[hc]
   simp
  rw[h1,h2,hc] at hb
  have hf:Yc n d=false:=by simpa using hb
  rw[h2,hc,hf]
  simp only[Bool.false_eq_true,if_false,Bool.and_false]
  unfold Yc at hf
  have h3:(d.c==2||d.e !=0 && d.e !=n.e||Ea n d)=false:=by
   cases h:(d.c==2||d.e !=0 && d.e !=n.e||Ea n d)
   ·rfl
   ·rw[h] at hf
    simp at hf
  have h4:(d.c==2)=false:=by
   cases h:(d.c==2)
   ·rfl
   ·rw[h] at h3;simp at h3
  have h5:Ea n d=false:=by
   cases h:Ea n d
   ·rfl
   ·rw[h] at h3;simp at h3
  unfold ZaQ
  rw[h5]
  have h6:Kt d=true:=by
   cases h:Kt d
   ·have:Gt d=0:=by unfold Gt;rw[h];rfl
    rw[this] at h1
    simp at h1
   ·rfl
  have h7:Yy d.c=true:=by
   unfold Kt at h6
   simp only[Bool.and_eq_true] at h6
   simp_all
  unfold Yy at h7
  show orT d.c n.c=1
  unfold orT
  rw[hc]
  by_cases h0:d.c=0
  ·rw[h0];rfl
  ·have:d.c=1:=by
    simp at h7 h4
    omega
   rw[this];rfl
 ·rw[h1] at hb
  simp at hb
theorem def_s (h:HP) (j:Nat) (q:OB) (k:KK) (d:DD) (w:World) (H:h.Is w) (hT:Tabs w) (hl:h.l.length<=65536) (hj:h.l[j]? =some q) (hm:q.m=true) (hk:OkK k) (hs:k.n≠0) (hg:goodK k=true) (hFn:FD (getD q.T k)) (hFd:FD d) (hlast:q.T.last<4000000):Calls prog 224 #[.agg #[], .pointer (some ⟨h.b,0,none⟩), .int .i64 ((j:Int)+1),k.agg,d.agg] w fun e w'=> ∃(h1:HP) (y:Bool),e= .returned (.tuple #[.bool y, .nilIface])/\DefP h j q k d h1 y/\h.To h1 w w':=by
 have SS:=Ab H.start
 simp only[Dg,Lh]
 go_enter func224,ntmps224
 go_wp2_with (first|go_skip|((with_reducible show wpList ..);first|((refine Kk (by rfl) rfl rfl (Aa SS) ?_);intro X0 B0 S0;replace SS:=Ab S0;clear S0;simp only[nn])|(refine zB 45 (k.cs) (by rfl) rfl rfl rfl SS ?_;clear SS;intro Xa Ba SS;simp only[nn])|(refine zB 48 (d.cs) (by rfl) rfl rfl rfl SS ?_;clear SS;intro Xb Bb SS;simp only[nn])|(refine zL (k.cs) 45 2 2 rwK szK (by rfl) rfl rfl SS rfl rfl rfl ?_;simp only[nn])))
 have HC:=fun X=>En k X
 simp only[Dg] at HC
 refine(HC _).mono ?_
 clear HC
 rintro _ Y ⟨rfl,hb⟩
 replace SS:=Ab ((Aa SS).on hb)
 clear hb
 rw[show (k.n !=0)=true by simpa using hs]
 go_wp2_with (first|go_skip|((with_reducible show wpList ..);first|(refine rd rfl (Ml rfl rfl ((Aa SS).emp 1 rfl)) ?_)|(refine rd rfl (ldE rfl rfl) ?_)|(refine rd rfl (ldA rfl rfl) ?_)|(refine zL (k.cs) 45 2 2 rwK szK (by rfl) rfl rfl SS rfl rfl rfl ?_;simp only[nn])|(refine zL (d.cs) 48 18 3 rwD szD (by rfl) rfl rfl SS rfl rfl rfl ?_;simp only[nn])))
 have T0:h.To h w _:=HP.To.end H (Aa SS) rfl
 have HD:=Vt h j q k d _ ((Aa SS).hp 0 rfl) hl hj (T0.tabs H hT) hk hg hFn hFd hlast
 rw[Dg,Lh] at HD
 refine HD.mono ?_
 rintro _ Y1 ⟨h1,y,rfl,hP,T1⟩
 replace SS:=Ab ((Aa SS).heap 0 rfl T1)
 have HP_:=Ab hP
 clear hP
 have hb1:h1.b=h.b:=T1.hb
 clear T1
 go_wp2
 go_ret2
 exact⟨h1,y,rfl,Aa HP_,HP.To.end H (Aa SS) hb1⟩
theorem del_s (h:HP) (j:Nat) (q:OB) (k:KK) (w:World) (H:h.Is w) (hT:Tabs w) (hl:h.l.length<=65536) (hj:h.l[j]? =some q) (hm:q.m=true) (hk:OkK k) (hs:k.n≠0) (hlast:q.T.last<100000):Calls prog 225 #[.agg #[], .pointer (some ⟨h.b,0,none⟩), .int .i64 ((j:Int)+1),k.agg] w fun e w'=> ∃(h1:HP) (y:Bool),e= .returned (.tuple #[.bool y, .nilIface])/\DelP h j q k h1 y/\h.To h1 w w':=by
 have SS:=Ab H.start
 simp only[Dg]
 go_enter func225,ntmps225
 go_wp2_with (first|go_skip|((with_reducible show wpList ..);first|((refine Kk (by rfl) rfl rfl (Aa SS) ?_);intro X0 B0 S0;replace SS:=Ab S0;clear S0;simp only[nn])|(refine zB 45 (k.cs) (by rfl) rfl rfl rfl SS ?_;clear SS;intro Xa Ba SS;simp only[nn])|(refine zL (k.cs) 45 2 2 rwK szK (by rfl) rfl rfl SS rfl rfl rfl ?_;simp only[nn])))
 have HC:=fun X=>En k X
 simp only[Dg] at HC
 refine(HC _).mono ?_
 clear HC
 rintro _ Y ⟨rfl,hb⟩
 replace SS:=Ab ((Aa SS).on hb)
 clear hb
 rw[show (k.n !=0)=true by simpa using hs]
 go_wp2_with (first|go_skip|((with_reducible show wpList ..);first|(refine rd rfl (Ml rfl rfl ((Aa SS).emp 1 rfl)) ?_)|(refine rd rfl (ldE rfl rfl) ?_)|(refine rd rfl (ldA rfl rfl) ?_)|(refine zL (k.cs) 45 2 2 rwK szK (by rfl) rfl rfl SS rfl rfl rfl ?_;simp only[nn])))
 have T0:h.To h w _:=HP.To.end H (Aa SS) rfl
 have HD:=Zcn h j q k _ ((Aa SS).hp 0 rfl) hl hj hk hm hs hlast
 rw[Dg] at HD
 refine HD.mono ?_
 rintro _ Y1 ⟨h1,y,rfl,hP,T1⟩
 replace SS:=Ab ((Aa SS).heap 0 rfl T1)
 have HP_:=Ab hP
 clear hP
 have hb1:h1.b=h.b:=T1.hb
 clear T1
 go_wp2
 go_ret2
 exact⟨h1,y,rfl,Aa HP_,HP.To.end H (Aa SS) hb1⟩
theorem ord_hasT (h:HP) (j:Nat) (q:OB) (k:KK) (w:World) (H:h.Is w) (hl:h.l.length<=65536) (hj:h.l[j]? =some q) (hm:q.m=true) (hk:OkK k) (hs:k.n≠0) (hf:(q.T.find k).isSome=true):Calls prog 160 #[.agg #[], .pointer (some ⟨h.b,0,none⟩), .int .i64 ((j:Int)+1),k.agg] w fun e w'=>e= .returned (.tuple #[.bool true, .nilIface])/\Below w.heap.size w w':=by
 have SS:=Ab (Sy.nil w [])
 rw[Dg]
 go_enter func160,ntmps160
 go_wp2_with (first|go_skip|((with_reducible show wpList ..);first|((refine bx0 85 (by rfl) rfl rfl (Aa SS) ?_);intro X0 B0 S0;replace SS:=Ab S0;clear S0;simp only[nn])|(refine zB 45 (k.cs) (by rfl) rfl rfl rfl SS ?_;clear SS;intro Xa Ba SS;simp only[nn])|(refine zL (k.cs) 45 2 0 rwK szK (by rfl) rfl rfl SS rfl rfl rfl ?_;simp only[nn])))
 have HC:=ZcZ h j q k _ (H.on (Aa SS).fr.below) hl hj hk hm hs
 rw[Dg,Lh,hf] at HC
 refine HC.mono ?_
 clear HC
 rintro _ Y ⟨rfl,hb⟩
 replace SS:=Ab ((Aa SS).on hb)
 clear hb
 go_wp2_with (first|go_skip|((with_reducible show wpList ..);first|(refine zA 48 (Ar.cs) (by rfl) rfl SS ?_;clear SS;intro Xb Bb SS;simp only[nn])|(refine zS ((getD q.T k).cs) 1 48 (by rfl) rfl rfl rfl rfl (Gf _) szD SS rfl ?_;clear SS;intro Xz SS;simp only[nn])))
 refine(Pf h j q _ (H.on (Aa SS).fr.below) hj hl).mono ?_
 rintro _ _ ⟨rfl,rfl⟩
 have HO:=Ab ((H.on (Aa SS).fr.below).ob hj).1
 go_wp2_with (first|go_skip|((with_reducible show wpList ..);first|(refine rd rfl (Am (vs:=q.p.cs) 26 5 rwV szV rfl rfl (Aa HO) rfl rfl) ?_)|(refine zA 26 (zeroV.cs) (by rfl) rfl SS ?_;clear SS;intro Xc Bc SS;simp only[nn])|(refine zS (q.p.cs) 2 26 (by rfl) rfl rfl rfl rfl (Ex _) szV SS rfl ?_;clear SS;intro Xy SS;simp only[nn])))
 go_ret2
 exact⟨rfl,(Aa SS).fr.below⟩
theorem has_s (h:HP) (j:Nat) (q:OB) (k:KK) (w:World) (H:h.Is w) (hl:h.l.length<=65536) (hj:h.l[j]? =some q) (hm:q.m=true) (hk:OkK k) (hs:k.n≠0) (hf:(q.T.find k).isSome=true):Calls prog 228 #[.agg #[], .pointer (some ⟨h.b,0,none⟩), .int .i64 ((j:Int)+1),k.agg] w fun e w'=>e= .returned (.tuple #[.bool true, .nilIface])/\Below w.heap.size w w':=by
 have SS:=Ab (Sy.nil w [])
 rw[Dg]
 go_enter func228,ntmps228
 go_wp2_with (first|go_skip|((with_reducible show wpList ..);first|((refine Kk (by rfl) rfl rfl (Aa SS) ?_);intro X0 B0 S0;replace SS:=Ab S0;clear S0;simp only[nn])|(refine zB 45 (k.cs) (by rfl) rfl rfl rfl SS ?_;clear SS;intro Xa Ba SS;simp only[nn])|(refine zL (k.cs) 45 2 1 rwK szK (by rfl) rfl rfl SS rfl rfl rfl ?_;simp only[nn])))
 have HC:=fun X=>En k X
 simp only[Dg] at HC
 refine(HC _).mono ?_
 clear HC
 rintro _ Y ⟨rfl,hb⟩
 replace SS:=Ab ((Aa SS).on hb)
 clear hb
 rw[show (k.n !=0)=true by simpa using hs]
 go_wp2_with (first|go_skip|((with_reducible show wpList ..);first|(refine rd rfl (Ml rfl rfl ((Aa SS).emp 0 rfl)) ?_)|(refine rd rfl (ldE rfl rfl) ?_)|(refine rd rfl (ldA rfl rfl) ?_)|(refine zL (k.cs) 45 2 1 rwK szK (by rfl) rfl rfl SS rfl rfl rfl ?_;simp only[nn])))
 have HC:=ord_hasT h j q k _ (H.on (Aa SS).fr.below) hl hj hm hk hs hf
 rw[Dg] at HC
 refine HC.mono ?_
 clear HC
 rintro _ Y ⟨rfl,hb⟩
 replace SS:=Ab ((Aa SS).on hb)
 clear hb
 go_wp2
 go_ret2
 exact⟨rfl,(Aa SS).fr.below⟩
def nullV:VV:=⟨2,false,0,ByteArray.empty,0⟩
def Gg:KK:=⟨ByteArray.empty,12⟩
def TG (T:TT):Prop:= ∃d,pr T= [(Gg,d)]/\d.c=1/\FD d
structure NX (h:HP) (q:OB) (p:EX) (L:Nat):Prop where
 l:h.l= [q]
 ow:q.ow=some (88, .pointer (some ⟨p.b,0,none⟩))
 he:h.e=exO p
 W:p.Wf
 V:Vals p
 m:q.m=true
 x:q.x=false
 pv:q.p=nullV
 tg:TG q.T
 last:q.T.last<=L
 K:h.Ok
theorem NX.at0 {h:HP} {q:OB} {p:EX} {L:Nat} (N:NX h q p L):h.l[0]? =some q:=by rw[N.l];rfl
theorem NX.len {h:HP} {q:OB} {p:EX} {L:Nat} (N:NX h q p L):h.l.length=1:=by rw[N.l];rfl
theorem NX.ns {h:HP} {q:OB} {p:EX} {L:Nat} (N:NX h q p L):NS h 0 q p:=⟨N.K.len,N.at0,N.ow,N.he,N.W,N.m⟩
theorem NX.j0 {j:Nat} (ho:(1:Int)=(j:Int)+1):j=0:=by omega
structure HS (h h1:HP) (c:Int):Prop where
 b:h1.b=h.b
 d:h1.depth=h.depth
 e:h1.ent=h.ent
 f1:h.fuel - c<=h1.fuel
 f2:h1.fuel<=h.fuel
theorem HS.refl (h:HP):HS h h 0:=⟨rfl,rfl,rfl,by omega,by omega⟩
theorem HS.more {h h1:HP} {c d:Int} (A:HS h h1 c) (hc:c<=d):HS h h1 d:=⟨A.b,A.d,A.e,by have:=A.f1;omega,A.f2⟩
theorem HS.out {h h1:HP} {c:Int} (A:HS h.inn h1 c):HS h h1.out (c+1):=by
 refine⟨A.b,A.d, ?_, ?_, ?_⟩
 ·have:=A.e
  show h1.ent - 1=h.ent
  rw[this]
  show h.ent+1 - 1=h.ent
  omega
 ·have:h.fuel - 1 - c<=h1.fuel:=A.f1
  show h.fuel - (c+1)<=h1.fuel
  omega
 ·have:h1.fuel<=h.fuel - 1:=A.f2
  show h1.fuel<=h.fuel
  omega
def Rt (h:HP) (p:EX) (L:Nat) (c:Int) (h1:HP):Prop:= ∃q1,NX h1 q1 p (L+1)/\HS h h1 c
theorem NX.more {h:HP} {q:OB} {p:EX} {L M:Nat} (N:NX h q p L) (hM:L<=M):NX h q p M:=⟨N.l,N.ow,N.he,N.W,N.V,N.m,N.x,N.pv,N.tg,Nat.le_trans N.last hM,N.K⟩
theorem NX.inn {h:HP} {q:OB} {p:EX} {L:Nat} (N:NX h q p L) (hf:h.fuel≠0) (hd:h.ent≠h.depth):NX h.inn q p L:=⟨N.l,N.ow,N.he,N.W,N.V,N.m,N.x,N.pv,N.tg,N.last,inn_ok N.K hf hd⟩
theorem Rt.out {h h1:HP} {p:EX} {L:Nat} {c:Int} (K:h.Ok) (A:Rt h.inn p L c h1):Rt h p L (c+1) h1.out:=by
 obtain⟨q1,N,S⟩:=A
 refine⟨q1,⟨N.l,N.ow,N.he,N.W,N.V,N.m,N.x,N.pv,N.tg,N.last,⟨N.K.len,N.K.f0,N.K.f1, ?_, ?_,N.K.d1⟩⟩,S.out⟩
 ·have e:h1.ent=h.ent+1:=S.e
  show 0<=h1.ent - 1
  have:=K.e0
  omega
 ·have:=N.K.e1
  show h1.ent - 1<=h1.depth
  omega
theorem Rt.more {h h1:HP} {p:EX} {L:Nat} {c d:Int} (A:Rt h p L c h1) (hc:c<=d):Rt h p L d h1:=by
 obtain⟨q1,N,S⟩:=A
 exact⟨q1,N,S.more hc⟩
theorem Rt.refl {h:HP} {q:OB} {p:EX} {L:Nat} (N:NX h q p L):Rt h p L 0 h:=⟨q,N.more (by omega),HS.refl h⟩
theorem Rt.lo {h h1:HP} {q:OB} {p:EX} {L:Nat} {c:Int} (N:NX h q p L) (A:Lo h h1 c) (hc:c<=h.fuel):Rt h p L c h1:=by
 obtain⟨f,rfl,a,b⟩:=A
 have h1:=N.K.f1
 exact⟨q,⟨N.l,N.ow,N.he,N.W,N.V,N.m,N.x,N.pv,N.tg,Nat.le_succ_of_le N.last,⟨N.K.len,by show 0<=f;omega,by show f<=_;omega,N.K.e0,N.K.e1,N.K.d1⟩⟩,rfl,rfl,rfl,a,b⟩
theorem tg_lk {T:TT} {k:KK} {d:DD} (hp:pr T= [(Gg,d)]):lkP (pr T) k=if k=Gg then some d else none:=by
 rw[hp]
 unfold lkP
 by_cases h:k=Gg
 ·subst h
  simp
 ·rw[if_neg h]
  have h': ¬Gg=k:=fun e=>h e.symm
  simp[h']
theorem Zb9 {T:TT} {k:KK} {d:DD} (hp:pr T= [(Gg,d)]):getD T k=if k=Gg then d else Ar:=by
 rw[pr_get,tg_lk hp]
 split<;>rfl
theorem no_zer:noV Ar=true:=by kernel_rfl
theorem tg_fd {T:TT} {k:KK} (h:TG T):FD (getD T k):=by
 obtain⟨d,hp, -,hd⟩:=h
 rw[Zb9 hp]
 split
 ·exact hd
 ·exact⟨show 0<2^64 by decide,show 0<2^64 by decide,show 0<2^64 by decide⟩
theorem tg_put {T T':TT} {k:KK} {d:DD} (h:TG T) (hd:FD d) (hb:ZaR false (getD T k) d=true) (hp':pr T'=putP (pr T) k (Du false (getD T k) d)):TG T':=by
 obtain⟨d0,hp,hc,hd0⟩:=h
 rw[Zb9 hp] at hb hp'
 by_cases hk:k=Gg
 ·rw[if_pos hk] at hb hp'
  refine⟨Du false d0 d, ?_,app_c hb hc,fd_app false hd0 hd⟩
  rw[hp',hp,hk]
  simp[putP,hasP]
 ·rw[if_neg hk] at hb
  exfalso
  unfold ZaR at hb
  rw[no_zer] at hb
  split at hb
  ·cases hb
  ·simp at hb
theorem NX.tab {h:HP} {q:OB} {p:EX} {L:Nat} {T':TT} (N:NX h q p L) (ht:TG T') (hl:T'.last<=q.T.last+1):NX (h.tab 0 q T') {q with T:=T'} p (L+1):=by
 refine⟨?_,N.ow,N.he,N.W,N.V,N.m,N.x,N.pv,ht, ?_, ?_⟩
 ·show h.l.set 0 _=_
  rw[N.l]
  rfl
 ·have:=N.last
  show T'.last<=L+1
  omega
 ·have:=N.K
  exact⟨by show (h.l.set 0 _).length<=_;rw[List.length_set];exact this.len,this.f0,this.f1,this.e0,this.e1,this.d1⟩
theorem Rt.def {h h1:HP} {q:OB} {p:EX} {L:Nat} {k:KK} {d:DD} {y:Bool} (N:NX h q p L) (hd:FD d) (A:DefP h 0 q k d h1 y):Rt h p L 0 h1:=by
 obtain⟨hy,h2⟩:=A
 rcases h2 with ⟨-,rfl⟩|⟨rfl,T',rfl,hl,hp⟩
 ·exact Rt.refl N
 ·rw[N.x] at hy hp
  exact⟨_,N.tab (tg_put N.tg hd hy.symm hp) hl,rfl,rfl,rfl,by show h.fuel - 0<=h.fuel;omega,Int.le_refl _⟩
theorem Rt.del {h h1:HP} {q:OB} {p:EX} {L:Nat} {k:KK} {y:Bool} (N:NX h q p L) (A:DelP h 0 q k h1 y):Rt h p L 0 h1:=by
 rcases A with ⟨-,rfl, -⟩|⟨-, -,rfl, -⟩|⟨h1,h2, -⟩
 ·exact Rt.refl N
 ·exact Rt.refl N
 ·exfalso
  obtain⟨d,hp,hc, -⟩:=N.tg
  rw[Zb9 hp] at h2
  by_cases hk:k=Gg
  ·rw[if_pos hk] at h2
   exact h2 hc
  ·have:=tg_lk (k:=k) hp
   rw[if_neg hk,pr_lk] at this
   cases hf:q.T.find k with
   |none=>rw[hf] at h1;cases h1
   |some r=>rw[hf] at this;cases this
theorem Vc (h:HP) (q:OB) (p:EX) (L:Nat) (k:KK) (d:DD) (w:World) (H:h.Is w) (hT:Tabs w) (N:NX h q p L) (hL:L<=90000) (hf:10<=h.fuel) (hd:h.ent+5<=h.depth) (hk:OkK k) (hFd:FD d):Calls prog 16 #[.pointer (some ⟨h.b,0,none⟩), .int .i64 1,k.agg,d.agg] w fun e w'=> ∃(h1:HP) (y:Bool) (er:Value),e= .returned (.tuple #[.bool y,er])/\Rt h p L 6 h1/\h.To h1 w w':=by
 refine(Nn h 1 k d w H N.K.len hT hFd (fun h1 y er=>Rt h p L 6 h1) (fun j' q' X hj0 hj' hc TX=> ?_)).mono (fun e w' hh=> ?_)
 ·obtain rfl:=NX.j0 hj0
  have hg:=ZdV (Jh hc (Bh k) (by simp))
  refine(Mt h 0 q k d (fun h1 y er=>Rt h.inn p L 2 h1) X TX.is N.K N.at0 N.m (by omega) (by omega) (fun X2 TX2=> ?_)).mono (fun e w' hh=> ?_)
  ·have NI:=(N.inn (by omega) (by omega))
   by_cases hs:k.n=0
   ·refine(def_n h.inn 0 q p k d X2 TX2.is (TX2.tabs TX.is (TX.tabs H hT)) NI.K NI.ns NI.V hk hs hFd (by show 2<=h.fuel - 1;omega) (by show h.ent+1+2<=h.depth;omega)).mono (fun e w' hh=> ?_)
    obtain⟨h1,y,er,he,hP,T⟩:=hh
    exact⟨h1,y,er,he,Rt.lo NI hP.1 (by show (2:Int)<=h.fuel - 1;omega),hP.1.ent,T⟩
   ·refine(def_s h.inn 0 q k d X2 TX2.is (TX2.tabs TX.is (TX.tabs H hT)) NI.K.len NI.at0 NI.m hk hs hg (tg_fd NI.tg) hFd (by have:=NI.last;omega)).mono (fun e w' hh=> ?_)
    obtain⟨h1,y,he,hP,T⟩:=hh
    have R0:=Rt.def NI hFd hP
    exact⟨h1,y, .nilIface,he,R0.more (by omega),(by obtain⟨_,_,S⟩:=R0;exact S.e),T⟩
  ·obtain⟨h1,y,er,he,hP,T⟩:=hh
   exact⟨h1.out,y,er,he,(hP.out N.K).more (by omega),T⟩
 ·obtain⟨h1,y,er,he,hP,T⟩:=hh
  refine⟨h1,y,er,he, ?_,T⟩
  rcases hP with ⟨-, -,rfl, -⟩|⟨-,hP⟩
  ·exact(Rt.refl N).more (by omega)
  ·exact hP
theorem Vb (h:HP) (q:OB) (p:EX) (L:Nat) (k:KK) (w:World) (H:h.Is w) (hT:Tabs w) (N:NX h q p L) (hL:L<=90000) (hf:10<=h.fuel) (hd:h.ent+5<=h.depth) (hk:OkK k):Calls prog 19 #[.pointer (some ⟨h.b,0,none⟩), .int .i64 1,k.agg] w fun e w'=> ∃(h1:HP) (y:Bool) (er:Value),e= .returned (.tuple #[.bool y,er])/\Rt h p L 6 h1/\h.To h1 w w':=by
 refine(Zed h 1 k w H N.K.len hT (fun h1 y er=>Rt h p L 6 h1) (fun j' q' X hj0 hj' hc TX=> ?_)).mono (fun e w' hh=> ?_)
 ·obtain rfl:=NX.j0 hj0
  refine(ZcD h 0 q k (fun h1 y er=>Rt h.inn p L 2 h1) X TX.is N.K N.at0 N.m (by omega) (by omega) (fun X2 TX2=> ?_)).mono (fun e w' hh=> ?_)
  ·have NI:=(N.inn (by omega) (by omega))
   by_cases hs:k.n=0
   ·refine(del_n h.inn 0 q p k X2 TX2.is NI.ns hk hs).mono (fun e w' hh=> ?_)
    exact⟨h.inn,_, .nilIface,hh.1,(Rt.refl NI).more (by omega),rfl,HP.To.refl TX2.is hh.2⟩
   ·refine(del_s h.inn 0 q k X2 TX2.is (TX2.tabs TX.is (TX.tabs H hT)) NI.K.len NI.at0 NI.m hk hs (by have:=NI.last;omega)).mono (fun e w' hh=> ?_)
    obtain⟨h1,y,he,hP,T⟩:=hh
    have R0:=Rt.del NI hP
    exact⟨h1,y, .nilIface,he,R0.more (by omega),(by obtain⟨_,_,S⟩:=R0;exact S.e),T⟩
  ·obtain⟨h1,y,er,he,hP,T⟩:=hh
   exact⟨h1.out,y,er,he,(hP.out N.K).more (by omega),T⟩
 ·obtain⟨h1,y,er,he,hP,T⟩:=hh
  refine⟨h1,y,er,he, ?_,T⟩
  rcases hP with ⟨-, -,rfl, -⟩|⟨-,hP⟩
  ·exact(Rt.refl N).more (by omega)
  ·exact hP
theorem Va (h:HP) (q:OB) (p:EX) (L:Nat) (k:KK) (v r:VV) (w:World) (H:h.Is w) (hT:Tabs w) (N:NX h q p L) (hL:L<=90000) (hf:10<=h.fuel) (hd:h.ent+5<=h.depth):Calls prog 17 #[.pointer (some ⟨h.b,0,none⟩), .int .i64 1,k.agg,v.agg,r.agg] w fun e w'=> ∃(h1:HP) (y:Bool) (er:Value),e= .returned (.tuple #[.bool y,er])/\Rt h p L 6 h1/\h.To h1 w w':=by
 refine(dorSet h 1 k v r w H N.K.len hT (fun h1 y er=>Rt h p L 6 h1) (fun j' q' X hj0 hj' hc TX=> ?_)).mono (fun e w' hh=> ?_)
 ·obtain rfl:=NX.j0 hj0
  refine(enSet_n h 0 q k v r (fun h1 y er=>Rt h.inn p L 2 h1) X TX.is N.K N.at0 N.m (by omega) (by omega) (fun X2 TX2=> ?_)).mono (fun e w' hh=> ?_)
  ·have NI:=(N.inn (by omega) (by omega))
   refine(set_n h.inn 0 k v r X2).mono (fun e w' hh=> ?_)
   exact⟨h.inn,false, .nilIface,hh.1,(Rt.refl NI).more (by omega),rfl,HP.To.refl TX2.is hh.2⟩
  ·obtain⟨h1,y,er,he,hP,T⟩:=hh
   exact⟨h1.out,y,er,he,(hP.out N.K).more (by omega),T⟩
 ·obtain⟨h1,y,er,he,hP,T⟩:=hh
  refine⟨h1,y,er,he, ?_,T⟩
  rcases hP with ⟨-, -,rfl, -⟩|⟨-,hP⟩
  ·exact(Rt.refl N).more (by omega)
  ·exact hP
theorem Qt (h:HP) (q:OB) (p:EX) (L:Nat) (w:World) (H:h.Is w) (hT:Tabs w) (N:NX h q p L) (hL:L<=90000) (hf:10<=h.fuel) (hd:h.ent+5<=h.depth):Calls prog 21 #[.pointer (some ⟨h.b,0,none⟩), .int .i64 1] w fun e w'=> ∃(h1:HP) (y:Bool) (er:Value),e= .returned (.tuple #[.bool y,er])/\Rt h p L 6 h1/\h.To h1 w w':=by
 refine(Nm h 1 w H N.K.len hT (fun h1 y er=>Rt h p L 6 h1) (fun j' q' X hj0 hj' hc TX=> ?_)).mono (fun e w' hh=> ?_)
 ·obtain rfl:=NX.j0 hj0
  refine(Ms h 0 q (fun h1 y er=>Rt h.inn p L 2 h1) X TX.is N.K N.at0 N.m (by omega) (by omega) (fun X2 TX2=> ?_)).mono (fun e w' hh=> ?_)
  ·have NI:=(N.inn (by omega) (by omega))
   refine(Ua h.inn 0 q X2 TX2.is NI.K.len NI.at0).mono (fun e w' hh=> ?_)
   refine⟨h.inn.shut 0 q,true, .nilIface,hh.1,⟨{q with x:=false},⟨?_,NI.ow,NI.he,NI.W,NI.V,NI.m,rfl,NI.pv,NI.tg,Nat.le_succ_of_le NI.last,⟨?_,NI.K.f0,NI.K.f1,NI.K.e0,NI.K.e1,NI.K.d1⟩⟩,rfl,rfl,rfl, ?_,Int.le_refl _⟩,rfl,hh.2⟩
   ·show h.l.set 0 _=_
    rw[N.l]
    rfl
   ·show (h.l.set 0 _).length<=_
    rw[List.length_set]
    exact N.K.len
   ·show h.inn.fuel - 2<=h.inn.fuel
    omega
  ·obtain⟨h1,y,er,he,hP,T⟩:=hh
   exact⟨h1.out,y,er,he,(hP.out N.K).more (by omega),T⟩
 ·obtain⟨h1,y,er,he,hP,T⟩:=hh
  refine⟨h1,y,er,he, ?_,T⟩
  rcases hP with ⟨-, -,rfl, -⟩|⟨-,hP⟩
  ·exact(Rt.refl N).more (by omega)
  ·exact hP
theorem ex_eqNul {o:Oper} {a:Act} {w:World} {x y:Operand} (ho:o.op= .binOp .eql 26 x y 26) (hx:a.eval x= .agg nullV.cs.toArray) (hy:a.eval y= .agg nullV.cs.toArray):(execOp a.eval o).run prog w= .ok (.value (.bool true)) w:=by
 unfold execOp
 simp only[ho,hx,hy]
 kernel_rfl
theorem ldNul {o:Oper} {a:Act} {w:World} {x:Operand} {q:OB} (hp:q.p=nullV) (h:Holds w q.b q.cs) (ho:o.op= .load 26 x) (hx:a.eval x= .pointer (some ⟨q.b,1,none⟩)):(execOp a.eval o).run prog w= .ok (.value (.agg nullV.cs.toArray)) w:=by
 rw[←hp]
 exact Am (vs:=q.p.cs) 26 5 rwV szV ho hx h rfl rfl
theorem ord_setp (h:HP) (j:Nat) (q:OB) (w:World) (H:h.Is w) (hl:h.l.length<=65536) (hj:h.l[j]? =some q) (hp:q.p=nullV):Calls prog 164 #[.agg #[], .pointer (some ⟨h.b,0,none⟩), .int .i64 ((j:Int)+1),nullV.agg] w fun e w'=>e= .returned (.tuple #[.bool true, .nilIface])/\Below w.heap.size w w':=by
 have SS:=Ab (Sy.nil w [])
 rw[Db]
 go_enter func164,ntmps164
 go_wp2_with (first|go_skip|((with_reducible show wpList ..);first|((refine bx0 85 (by rfl) rfl rfl (Aa SS) ?_);intro X0 B0 S0;replace SS:=Ab S0;clear S0;simp only[nn])|(refine zB 26 (nullV.cs) (by rfl) rfl rfl rfl SS ?_;clear SS;intro Xa Ba SS;simp only[nn])))
 refine(Pf h j q _ (H.on (Aa SS).fr.below) hj hl).mono ?_
 rintro _ _ ⟨rfl,rfl⟩
 go_wp2_with fail
 have hS2:Sy w _ [] [Ao Ba nullV.cs]:=(Aa SS).drew
 clear SS
 refine wp_region_held_drew (P:=prog) (S:=fun X=>Holds X Ba nullV.cs/\Holds X q.b q.cs) (by kernel_rfl) (⟨hS2.hold 0 rfl,(H.on hS2.fr.below).ob hj|>.1⟩) (fun hS0=> ?_)
 refine gq 0 (some 14) (.agg nullV.cs.toArray) rfl rfl (fun X hX=>Am (vs:=nullV.cs) 26 5 rwV szV rfl rfl hX.1 rfl rfl) (⟨hS2.hold 0 rfl,(H.on hS2.fr.below).ob hj|>.1⟩) ?_
 refine gp 1 (some 15) (.pointer (some ⟨q.b,0,none⟩)) rfl rfl (⟨hS2.hold 0 rfl,(H.on hS2.fr.below).ob hj|>.1⟩) ?_
 refine gp 2 (some 16) (.pointer (some ⟨q.b,0,none⟩)) rfl rfl (⟨hS2.hold 0 rfl,(H.on hS2.fr.below).ob hj|>.1⟩) ?_
 refine gp 3 (some 17) (.pointer (some ⟨q.b,1,none⟩)) rfl rfl (⟨hS2.hold 0 rfl,(H.on hS2.fr.below).ob hj|>.1⟩) ?_
 refine gq 4 (some 18) (.agg nullV.cs.toArray) rfl rfl (fun X hX=>ldNul hp hX.2 rfl rfl) (⟨hS2.hold 0 rfl,(H.on hS2.fr.below).ob hj|>.1⟩) ?_
 refine gq 5 (some 19) (.bool true) rfl rfl (fun X hX=>ex_eqNul rfl rfl rfl) (⟨hS2.hold 0 rfl,(H.on hS2.fr.below).ob hj|>.1⟩) ?_
 refine dn ?_
 try simp only[nn]
 have SS:=Ab hS2
 go_wp2
 go_ret2
 exact⟨rfl,(Aa SS).fr.below⟩
theorem Qs (h:HP) (q:OB) (p:EX) (L:Nat) (w:World) (H:h.Is w) (hT:Tabs w) (N:NX h q p L) (hL:L<=90000) (hf:10<=h.fuel) (hd:h.ent+5<=h.depth):Calls prog 20 #[.pointer (some ⟨h.b,0,none⟩), .int .i64 1,nullV.agg] w fun e w'=> ∃(h1:HP) (y:Bool) (er:Value),e= .returned (.tuple #[.bool y,er])/\Rt h p L 6 h1/\h.To h1 w w':=by
 refine(Qq h 1 nullV w H N.K.len hT (fun h1 y er=>Rt h p L 6 h1) (fun j' q' X hj0 hj' hc TX=> ?_)).mono (fun e w' hh=> ?_)
 ·obtain rfl:=NX.j0 hj0
  refine(Pc h 0 q nullV (fun h1 y er=>Rt h.inn p L 2 h1) X TX.is N.K N.at0 N.m (by omega) (by omega) (fun X2 TX2=> ?_)).mono (fun e w' hh=> ?_)
  ·have NI:=(N.inn (by omega) (by omega))
   refine(ord_setp h.inn 0 q X2 TX2.is NI.K.len NI.at0 NI.pv).mono (fun e w' hh=> ?_)
   exact⟨h.inn,true, .nilIface,hh.1,(Rt.refl NI).more (by omega),rfl,HP.To.refl TX2.is hh.2⟩
  ·obtain⟨h1,y,er,he,hP,T⟩:=hh
   exact⟨h1.out,y,er,he,(hP.out N.K).more (by omega),T⟩
 ·obtain⟨h1,y,er,he,hP,T⟩:=hh
  refine⟨h1,y,er,he, ?_,T⟩
  rcases hP with ⟨-, -,rfl, -⟩|⟨-,hP⟩
  ·exact(Rt.refl N).more (by omega)
  ·exact hP
