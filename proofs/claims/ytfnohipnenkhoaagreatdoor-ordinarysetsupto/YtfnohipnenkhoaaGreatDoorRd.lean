import Derived.Test.YtfnohipnenkhoaaGreatDoorRc
set_option linter.all false
namespace Go.Proofs.YtfnohipnenkhoaaGreatDoor
set_option maxRecDepth 100000
set_option maxHeartbeats 0
section
open Go Go.Proofs Go.Maps Go.RowKit FM
structure HP.Gd (h:HP) (N:Nat):Prop where
 wf:h.Wf
 ac:h.Ac
 few:h.Few N
 cap:h.cap<=65536
 room:(h.l.length:Int)<=h.cap
theorem Zd2 {v a:VV} (h1:v.k≠7) (h2:a.k≠7):(orV v a).k≠7:=by
 unfold orV
 split<;>assumption
theorem und_k:Dr.k≠7:=by decide
theorem Nm:Av.k≠7:=by decide
theorem fill_k {d:DD} (hg:d.g.k≠7) (hs:d.s.k≠7):(Kz d).g.k≠7/\(Kz d).s.k≠7:=by
 unfold Kz
 split
 ·exact⟨Zd2 hg und_k,Zd2 hs und_k⟩
 ·exact⟨hg,hs⟩
theorem app_k (x:Bool) {n d:DD} (hn:n.g.k≠7/\n.s.k≠7) (hg:d.g.k≠7) (hs:d.s.k≠7):(Ec x n d).g.k≠7/\(Ec x n d).s.k≠7:=by
 unfold Ec
 split
 ·exact⟨Nm,Nm⟩
 split
 ·split
  ·exact fill_k hg hs
  ·exact⟨Nm,Nm⟩
 split
 ·exact hn
 unfold Ub
 split
 ·exact fill_k hg hs
 ·exact⟨Zd2 hg hn.1,Zd2 hs hn.2⟩
theorem Zes {x:Bool} {n d:DD} (hF:FD n) (hk:n.g.k≠7/\n.s.k≠7) (hd:FD d) (hg:d.g.k≠7) (hs:d.s.k≠7) (hb:Yx x n d=true):OkD (Ec x n d):=
 ⟨fd_app x hF hd,(ZcV hb).2.1.whole,app_k x hk hg hs⟩
theorem get_k {h:HP} (K:h.Wf) {j:Nat} {q:OB} (hj:h.l[j]? =some q) (k:KK):(getD q.T k).g.k≠7/\(getD q.T k).s.k≠7:=by
 cases hf:q.T.find k with
 |none=>
  unfold getD
  rw[hf]
  exact⟨Nm,Nm⟩
 |some r=>exact(ZbP K hj hf).2.2
theorem ZdY {l:List (KK×DD)} {k:KK} {d:DD} {e:KK×DD} (h:e∈Qx l k d):e.2=d∨e∈l:=by
 unfold Qx at h
 split at h
 ·obtain⟨x,hx,rfl⟩:=List.mem_map.1 h
  split
  ·exact .inl rfl
  ·exact .inr hx
 ·rcases List.mem_append.1 h with h|h
  ·exact .inr h
  ·rw[List.mem_singleton.1 h]
   exact .inl rfl
theorem ZdM {h:HP} {j i:Nat} {q' r:OB} (hi:(h.l.set j q')[i]? =some r):(i=j/\r=q')∨(i≠j/\h.l[i]? =some r):=by
 by_cases e:j=i
 ·subst e
  have hlt:j<h.l.length:=by have:=(List.getElem?_eq_some_iff.1 hi).1;simpa using this
  rw[List.getElem?_set_self hlt] at hi
  exact .inl ⟨rfl,(Option.some.inj hi).symm⟩
 ·rw[List.getElem?_set_ne e] at hi
  exact .inr ⟨fun e2=>e e2.symm,hi⟩
theorem Zdm {h:HP} {N M:Nat} (G:h.Gd N) {j:Nat} {q q':OB} (hj:h.l[j]? =some q) (hw:OB.Wf h.l.length q') (hl:q'.T.last<=M) (hM:N<=M) (hA:({h with l:=h.l.set j q'}:HP).Ac):({h with l:=h.l.set j q'}:HP).Gd M:=by
 have hlen:(h.l.set j q').length=h.l.length:=List.length_set
 refine⟨⟨⟨by show (h.l.set j q').length<=_;rw[hlen];exact G.wf.ok.len,G.wf.ok.f0,G.wf.ok.f1,G.wf.ok.e0,G.wf.ok.e1,G.wf.ok.d1⟩,fun i r hi=> ?_⟩,hA,fun i r hi=> ?_,G.cap,by show ((h.l.set j q').length:Int)<=_;rw[hlen];exact G.room⟩
 ·show OB.Wf (h.l.set j q').length r
  rw[hlen]
  rcases ZdM (h:=h) hi with ⟨-,rfl⟩|⟨-,hi⟩
  ·exact hw
  ·exact G.wf.ob i r hi
 ·rcases ZdM (h:=h) hi with ⟨-,rfl⟩|⟨-,hi⟩
  ·exact hl
  ·exact Nat.le_trans (G.few i r hi) hM
theorem Zd8 {h:HP} (A:h.Ac) {j:Nat} {q q':OB} (hj:h.l[j]? =some q) (hp:q'.p=q.p):({h with l:=h.l.set j q'}:HP).Ac:=A.same (fun i r hi=>by
 rcases ZdM (h:=h) hi with ⟨rfl,rfl⟩|⟨-,hi⟩
 ·exact⟨q,hj,hp.symm⟩
 ·exact⟨r,hi,rfl⟩)
theorem Zc2 {h:HP} {N M:Nat} (G:h.Gd N) {j:Nat} {q:OB} (hj:h.l[j]? =some q) {T':TT} (hp: ∀e∈pr T',OkD e.2) (hl:T'.last<=M) (hM:N<=M):(h.tab j q T').Gd M:=by
 have K:=G.wf.ob j q hj
 exact Zdm G hj (q':={q with T:=T'}) ⟨K.c,K.px,K.pk,K.pi,hp⟩ hl hM (Zd8 G.ac hj rfl)
theorem shut_gd {h:HP} {N:Nat} (G:h.Gd N) {j:Nat} {q:OB} (hj:h.l[j]? =some q):(h.shut j q).Gd N:=by
 have K:=G.wf.ob j q hj
 exact Zdm G hj (q':={q with x:=false}) ⟨K.c,K.px,K.pk,K.pi,K.ps⟩ (G.few j q hj) (Nat.le_refl _) (Zd8 G.ac hj rfl)
theorem prot_gd {h:HP} {N:Nat} (G:h.Gd N) {j:Nat} {q:OB} (hj:h.l[j]? =some q) {v:VV} (hx:v.x<2^64) (hk:v.k=2∨v.k=7) (hi:v.k=7->1<=v.i/\v.i<=(h.l.length:Int)) (hR: ∀i:Nat,v.k=7->v.i=(i:Int)+1-> ¬Rch h j i):(h.prot j q v).Gd N:=by
 have K:=G.wf.ob j q hj
 exact Zdm G hj (q':={q with p:=v}) ⟨K.c,hx,hk,hi,K.ps⟩ (G.few j q hj) (Nat.le_refl _) (G.ac.prot hj v hR)
theorem HP.Gd.mono {h:HP} {N M:Nat} (G:h.Gd N) (hM:N<=M):h.Gd M:=⟨G.wf,G.ac,fun j q hj=>Nat.le_trans (G.few j q hj) hM,G.cap,G.room⟩
theorem Px {h h1:HP} {N:Nat} (G:h.Gd N) (L:Low h h1):h1.Gd N:=⟨L.wf G.wf,G.ac.low L,L.few G.few,by rw[L.eq];exact G.cap,by rw[L.eq];exact G.room⟩
structure Stp (h h1:HP):Prop where
 len:h1.l.length=h.l.length
 cap:h1.cap=h.cap
 depth:h1.depth=h.depth
 ent:h1.ent=h.ent
theorem Stp.refl (h:HP):Stp h h:=⟨rfl,rfl,rfl,rfl⟩
theorem Low.stp {h h1:HP} (L:Low h h1):Stp h h1:=by
 rw[L.eq]
 exact⟨rfl,rfl,rfl,rfl⟩
theorem Zbl (h:HP) (j:Nat) (q:OB) (T':TT):Stp h (h.tab j q T'):=⟨List.length_set,rfl,rfl,rfl⟩
theorem Stp.trans {h h1 h2:HP} (A:Stp h h1) (B:Stp h1 h2):Stp h h2:=⟨B.len.trans A.len,B.cap.trans A.cap,B.depth.trans A.depth,B.ent.trans A.ent⟩
theorem DefE.gd {h:HP} {N:Nat} {j:Nat} {q:OB} {k:KK} {d:DD} {h1:HP} {y:Bool} {er:Value} (G:h.Gd N) (hj:h.l[j]? =some q) (hd:FD d) (hg:d.g.k≠7) (hs:d.s.k≠7) (D:DefE h j q k d h1 y er):h1.Gd (N+1)/\Stp h h1:=by
 rcases D with ⟨-,L, -⟩|⟨-, -,hb,T',L,hl,hp⟩
 ·exact⟨(Px G L).mono (Nat.le_succ _),L.stp⟩
 ·have hO:=Zes (ZbR G.wf hj k) (get_k G.wf hj k) hd hg hs hb
  have h2:(h.tab j q T').Gd (N+1):=Zc2 G hj (fun e he=>by
   rw[hp] at he
   rcases ZdY he with h3|h3
   ·rw[h3];exact hO
   ·exact(G.wf.ob j q hj).ps e h3) (by have:=G.few j q hj;omega) (Nat.le_succ _)
  exact⟨Px h2 L,(Zbl h j q T').trans L.stp⟩
theorem WriP.gd {h:HP} {N:Nat} {j:Nat} {q:OB} {k:KK} {v:VV} {h1:HP} {y:Bool} {er:Value} (G:h.Gd N) (hj:h.l[j]? =some q) (hv:v.x<2^64) (D:WriP h j q k v h1 y er):h1.Gd (N+1)/\Stp h h1:=by
 rcases D with ⟨-,L, -⟩|⟨-, -,d,T',hd,hb,L,hl,hp⟩
 ·exact⟨(Px G L).mono (Nat.le_succ _),L.stp⟩
 ·have hF:FD d/\d.g.k≠7/\d.s.k≠7:=by
   rcases hd with ⟨rfl, -⟩|⟨rfl, -⟩
   ·exact⟨Zb3 hv,Nm,Nm⟩
   ·exact⟨FD_val hv,Nm,Nm⟩
  exact DefE.gd (er:= .nilIface) (y:=true) G hj hF.1 hF.2.1 hF.2.2 (.inr ⟨rfl,rfl,hb,T',L,hl,hp⟩)
theorem SetP.gd {h:HP} {N:Nat} {k:KK} {r v:VV} {h1:HP} {y:Bool} {er:Value} (G:h.Gd N) (hv:v.x<2^64) (D:SetP h r k v h1 y er):h1.Gd (N+1)/\Stp h h1:=by
 rcases D with ⟨-,L, -⟩|⟨i,qr, -, -,hq,hW⟩
 ·exact⟨(Px G L).mono (Nat.le_succ _),L.stp⟩
 ·exact hW.gd G hq hv
theorem proto_en (h:HP) (j:Nat) (q:OB) (w:World) (H:h.Is w) (N:Nat) (G:h.Gd N) (hj:h.l[j]? =some q):Calls Tryz.prog 82 #[.pointer (some ⟨h.b,0,none⟩), .int .i64 ((j:Int)+1)] w fun e w'=> ∃(h1:HP) (V:VV) (er:Value),e= .returned (.tuple #[V.agg,er])/\((Low h h1/\True)/\Jj h h1 er)/\h.To h1 w w':=by
 have K:=G.wf
 by_cases h0:h.fuel=0
 ·refine(Rw h j  w H h0).mono ?_
  rintro _ Y ⟨rfl,T⟩
  exact⟨h,Av,Bs 1,rfl,⟨⟨Low.refl K.ok,trivial⟩, .inr (.inl rfl),fun _=>⟨rfl,rfl⟩,fun h1=>absurd h0 h1⟩,T⟩
 by_cases hd:h.ent=h.depth
 ·refine(Rv h j  w H K.ok h0 hd).mono ?_
  rintro _ Y ⟨rfl,T⟩
  exact⟨h.less,Av,Bs 2,rfl,⟨⟨Ej K.ok h0,trivial⟩, .inr (.inr rfl),fun h1=>absurd h1 h0,fun _=>by show h.fuel - 1<h.fuel;omega⟩,T⟩
 ·have hp:=K.ok.f0
  refine(Ru h j q  (fun h1 V er=>er= .nilIface/\(h1=h.inn/\True)) w H K.ok hj h0 hd (fun X TX=> ?_)).mono ?_
  ·refine(ZeR h.inn j q X TX.is K.ok.len hj).mono ?_
   rintro e Y ⟨rfl,hb⟩
   exact⟨h.inn,_,_,rfl,⟨rfl,rfl,trivial⟩,rfl,HP.To.refl TX.is hb⟩
  ·rintro e Y ⟨h1,V,er,rfl,⟨rfl,hQ⟩,T⟩
   obtain⟨rfl,hx⟩:=hQ
   rw[Kx] at T
   exact⟨h.less,V, .nilIface,rfl,⟨⟨Ej K.ok h0,hx⟩, .inl rfl,fun h1=>absurd h1 h0,fun _=>by show h.fuel - 1<h.fuel;omega⟩,T⟩
theorem ext_en (h:HP) (j:Nat) (q:OB) (w:World) (H:h.Is w) (N:Nat) (G:h.Gd N) (hj:h.l[j]? =some q):Calls Tryz.prog 84 #[.pointer (some ⟨h.b,0,none⟩), .int .i64 ((j:Int)+1)] w fun e w'=> ∃(h1:HP) (y:Bool) (er:Value),e= .returned (.tuple #[.bool y,er])/\((Low h h1/\True)/\Jj h h1 er)/\h.To h1 w w':=by
 have K:=G.wf
 by_cases h0:h.fuel=0
 ·refine(Xk h j  w H h0).mono ?_
  rintro _ Y ⟨rfl,T⟩
  exact⟨h,false,Bs 1,rfl,⟨⟨Low.refl K.ok,trivial⟩, .inr (.inl rfl),fun _=>⟨rfl,rfl⟩,fun h1=>absurd h0 h1⟩,T⟩
 by_cases hd:h.ent=h.depth
 ·refine(Vz h j  w H K.ok h0 hd).mono ?_
  rintro _ Y ⟨rfl,T⟩
  exact⟨h.less,false,Bs 2,rfl,⟨⟨Ej K.ok h0,trivial⟩, .inr (.inr rfl),fun h1=>absurd h1 h0,fun _=>by show h.fuel - 1<h.fuel;omega⟩,T⟩
 ·have hp:=K.ok.f0
  refine(Vy h j q  (fun h1 y er=>er= .nilIface/\(h1=h.inn/\True)) w H K.ok hj h0 hd (fun X TX=> ?_)).mono ?_
  ·refine(ord_ext h.inn j q X TX.is K.ok.len hj).mono ?_
   rintro e Y ⟨rfl,hb⟩
   exact⟨h.inn,_,_,rfl,⟨rfl,rfl,trivial⟩,rfl,HP.To.refl TX.is hb⟩
  ·rintro e Y ⟨h1,y,er,rfl,⟨rfl,hQ⟩,T⟩
   obtain⟨rfl,hx⟩:=hQ
   rw[Kx] at T
   exact⟨h.less,y, .nilIface,rfl,⟨⟨Ej K.ok h0,hx⟩, .inl rfl,fun h1=>absurd h1 h0,fun _=>by show h.fuel - 1<h.fuel;omega⟩,T⟩
theorem Vp {T:TT} {W:World} (h:T.Is W):T.live.length<=T.last:=by
 have h1:T.live.length<=T.rows.length:=List.length_filter_le _ _
 have h2:=h.rise
 have h3:=h.num
 clear h
 have key: ∀(l:List RR) (m:Nat),l.Pairwise (fun a b=>a.n<b.n)->(∀r∈l,m<r.n/\r.n<=T.last)->l.length+m<=T.last∨l= []:=by
  intro l
  induction l with
  |nil=>exact fun m _ _=> .inr rfl
  |cons a l ih=>
   intro m hp hn
   left
   rw[List.pairwise_cons] at hp
   rcases ih a.n hp.2 (fun r hr=>⟨hp.1 r hr,(hn r (List.mem_cons_of_mem _ hr)).2⟩) with h|h
   ·have:=(hn a (List.mem_cons_self ..)).1
    simp only[List.length_cons]
    omega
   ·subst h
    have:=hn a (List.mem_cons_self ..)
    simp only[List.length_cons,List.length_nil]
    omega
 rcases key T.rows 0 h2 (fun r hr=>⟨(h3 r hr).1,(h3 r hr).2⟩) with h|h
 ·omega
 ·rw[h] at h1
  simp at h1
  rw[h1]
  exact Nat.zero_le _
theorem sl_form {w:World} {b:Nat} {v:Value} {l:List KK} (h:OwnK w b v l): ∃A n c,v= .slice A n c:=by
 obtain⟨A,c,e⟩:=Gy h
 exact⟨A,_,c,e⟩
theorem keys_en (h:HP) (j:Nat) (q:OB) (w:World) (H:h.Is w) (N:Nat) (G:h.Gd N) (hj:h.l[j]? =some q) (hN:N<=90000) (hT:Tabs w):Calls Tryz.prog 89 #[.pointer (some ⟨h.b,0,none⟩), .int .i64 ((j:Int)+1)] w fun e w'=> ∃(h1:HP) (V:Value) (er:Value),e= .returned (.tuple #[V,er])/\((Low h h1/\(∃A n c,V= .slice A n c))/\Jj h h1 er)/\h.To h1 w w':=by
 have K:=G.wf
 by_cases h0:h.fuel=0
 ·refine(Rc h j  w H h0).mono ?_
  rintro _ Y ⟨rfl,T⟩
  exact⟨h, .slice none 0 0,Bs 1,rfl,⟨⟨Low.refl K.ok,_,_,_,rfl⟩, .inr (.inl rfl),fun _=>⟨rfl,rfl⟩,fun h1=>absurd h0 h1⟩,T⟩
 by_cases hd:h.ent=h.depth
 ·refine(Rb h j  w H K.ok h0 hd).mono ?_
  rintro _ Y ⟨rfl,T⟩
  exact⟨h.less, .slice none 0 0,Bs 2,rfl,⟨⟨Ej K.ok h0,_,_,_,rfl⟩, .inr (.inr rfl),fun h1=>absurd h1 h0,fun _=>by show h.fuel - 1<h.fuel;omega⟩,T⟩
 ·have hp:=K.ok.f0
  refine(Ra h j q  (fun h1 V er=>er= .nilIface/\(h1=h.inn/\(∃A n c,V= .slice A n c))) w H K.ok hj h0 hd (fun X TX=> ?_)).mono ?_
  ·refine(ord_keys h.inn j q X TX.is K.ok.len hj (TX.tabs H hT) (by have:=G.few j q hj;omega) (by have:=Vp (TX.is.ob hj).2.1;have:=G.few j q hj;omega)).mono ?_
   rintro e Y ⟨v,l9,rfl,hO,hb⟩
   exact⟨h.inn,_,_,rfl,⟨rfl,rfl,sl_form hO⟩,rfl,HP.To.refl TX.is hb⟩
  ·rintro e Y ⟨h1,V,er,rfl,⟨rfl,hQ⟩,T⟩
   obtain⟨rfl,hx⟩:=hQ
   rw[Kx] at T
   exact⟨h.less,V, .nilIface,rfl,⟨⟨Ej K.ok h0,hx⟩, .inl rfl,fun h1=>absurd h1 h0,fun _=>by show h.fuel - 1<h.fuel;omega⟩,T⟩
theorem prev_en (h:HP) (j:Nat) (q:OB) (w:World) (H:h.Is w) (N:Nat) (G:h.Gd N) (hj:h.l[j]? =some q):Calls Tryz.prog 85 #[.pointer (some ⟨h.b,0,none⟩), .int .i64 ((j:Int)+1)] w fun e w'=> ∃(h1:HP) (y:Bool) (er:Value),e= .returned (.tuple #[.bool y,er])/\((((y=false/\Low h h1)∨(y=true/\er= .nilIface/\Low (h.shut j q) h1)))/\Jj h h1 er)/\h.To h1 w w':=by
 have K:=G.wf
 by_cases h0:h.fuel=0
 ·refine(Pd h j  w H h0).mono ?_
  rintro _ Y ⟨rfl,T⟩
  exact⟨h,false,Bs 1,rfl,⟨.inl ⟨rfl,Low.refl K.ok⟩, .inr (.inl rfl),fun _=>⟨rfl,rfl⟩,fun h1=>absurd h0 h1⟩,T⟩
 by_cases hd:h.ent=h.depth
 ·refine(Pc h j  w H K.ok h0 hd).mono ?_
  rintro _ Y ⟨rfl,T⟩
  exact⟨h.less,false,Bs 2,rfl,⟨.inl ⟨rfl,Ej K.ok h0⟩, .inr (.inr rfl),fun h1=>absurd h1 h0,fun _=>by show h.fuel - 1<h.fuel;omega⟩,T⟩
 ·have hp:=K.ok.f0
  refine(Pb h j q  (fun h1 y er=>er= .nilIface/\(h1=h.inn.shut j q/\y=true)) w H K.ok hj h0 hd (fun X TX=> ?_)).mono ?_
  ·refine(Zcp h.inn j q X TX.is K.ok.len hj).mono ?_
   rintro e Y ⟨rfl,T⟩
   exact⟨_,_,_,rfl,⟨rfl,rfl,rfl⟩,rfl,T⟩
  ·rintro e Y ⟨h1,y,er,rfl,⟨rfl,hQ⟩,T⟩
   obtain⟨rfl,rfl⟩:=hQ
   exact⟨_,true, .nilIface,rfl,⟨.inr ⟨rfl,rfl,⟨by unfold HP.out HP.inn HP.shut;simp,by show h.fuel - 1<=h.fuel;omega,by show 0<=h.fuel - 1;omega⟩⟩, .inl rfl,fun h1=>absurd h1 h0,fun _=>by show h.fuel - 1<h.fuel;omega⟩,T⟩
theorem del_en (h:HP) (j:Nat) (q:OB) (k:KK) (w:World) (H:h.Is w) (N:Nat) (G:h.Gd N) (hj:h.l[j]? =some q) (hN:N<=90000) (hk:OkK k):Calls Tryz.prog 88 #[.pointer (some ⟨h.b,0,none⟩), .int .i64 ((j:Int)+1),k.agg] w fun e w'=> ∃(h1:HP) (y:Bool) (er:Value),e= .returned (.tuple #[.bool y,er])/\((((y=false/\Low h h1)∨(er= .nilIface/\((y=true/\Low h h1)∨(y=true/\ ∃T':TT,Low (h.tab j q T') h1/\T'.last=q.T.last/\pr T'=Ze6 (pr q.T) k)))))/\Jj h h1 er)/\h.To h1 w w':=by
 have K:=G.wf
 by_cases h0:h.fuel=0
 ·refine(ZdC h j k w H h0).mono ?_
  rintro _ Y ⟨rfl,T⟩
  exact⟨h,false,Bs 1,rfl,⟨.inl ⟨rfl,Low.refl K.ok⟩, .inr (.inl rfl),fun _=>⟨rfl,rfl⟩,fun h1=>absurd h0 h1⟩,T⟩
 by_cases hd:h.ent=h.depth
 ·refine(ZdB h j k w H K.ok h0 hd).mono ?_
  rintro _ Y ⟨rfl,T⟩
  exact⟨h.less,false,Bs 2,rfl,⟨.inl ⟨rfl,Ej K.ok h0⟩, .inr (.inr rfl),fun h1=>absurd h1 h0,fun _=>by show h.fuel - 1<h.fuel;omega⟩,T⟩
 ·have hp:=K.ok.f0
  refine(ZdA h j q k (fun h1 y er=>er= .nilIface/\(DelP h.inn j q k h1 y)) w H K.ok hj h0 hd (fun X TX=> ?_)).mono ?_
  ·refine(Zdj h.inn j q k X TX.is K.ok.len hj hk (by have:=G.few j q hj;omega)).mono ?_
   rintro e Y ⟨h1,y,rfl,hD,T⟩
   refine⟨h1,y, .nilIface,rfl,⟨rfl,hD⟩, ?_,T⟩
   rcases hD with ⟨-,rfl, -⟩|⟨-, -,rfl, -⟩|⟨-, -, -,T',rfl, -⟩<;>rfl
  ·rintro e Y ⟨h1,y,er,rfl,⟨rfl,hQ⟩,T⟩
   rcases hQ with ⟨-,rfl,rfl⟩|⟨-, -,rfl,rfl⟩|⟨-, -,rfl,T',rfl,hl,hp⟩
   ·rw[Kx] at T
    exact⟨h.less,true, .nilIface,rfl,⟨.inr ⟨rfl, .inl ⟨rfl,Ej K.ok h0⟩⟩, .inl rfl,fun h1=>absurd h1 h0,fun _=>by show h.fuel - 1<h.fuel;omega⟩,T⟩
   ·rw[Kx] at T
    exact⟨h.less,false, .nilIface,rfl,⟨.inl ⟨rfl,Ej K.ok h0⟩, .inl rfl,fun h1=>absurd h1 h0,fun _=>by show h.fuel - 1<h.fuel;omega⟩,T⟩
   ·exact⟨_,true, .nilIface,rfl,⟨.inr ⟨rfl, .inr ⟨rfl,T',⟨by unfold HP.out HP.inn HP.tab;simp,by show h.fuel - 1<=h.fuel;omega,by show 0<=h.fuel - 1;omega⟩,hl,hp⟩⟩, .inl rfl,fun h1=>absurd h1 h0,fun _=>by show h.fuel - 1<h.fuel;omega⟩,T⟩
theorem rch_inn {h:HP} {o x:Nat} (hr:Rch h o x):Rch h.inn o x:=by
 induction hr with
 |here=>exact .here
 |step a b c _ ih=>exact .step (h:=h.inn) a b c ih
theorem setp_en (h:HP) (j:Nat) (q:OB) (v:VV) (w:World) (H:h.Is w) (N:Nat) (G:h.Gd N) (hj:h.l[j]? =some q) (hv:v.k=7->1<=v.i/\v.i<=(h.l.length:Int)):Calls Tryz.prog 83 #[.pointer (some ⟨h.b,0,none⟩), .int .i64 ((j:Int)+1),v.agg] w fun e w'=> ∃(h1:HP) (y:Bool) (er:Value),e= .returned (.tuple #[.bool y,er])/\((((y=false/\Low h h1)∨(er= .nilIface/\(Low h h1∨(y=true/\Low (h.prot j q v) h1/\q.x=true/\ ∀i:Nat,v.k=7->v.i=(i:Int)+1-> ¬Rch h j i)))))/\Jj h h1 er)/\h.To h1 w w':=by
 have K:=G.wf
 by_cases h0:h.fuel=0
 ·refine(Rt h j v w H h0).mono ?_
  rintro _ Y ⟨rfl,T⟩
  exact⟨h,false,Bs 1,rfl,⟨.inl ⟨rfl,Low.refl K.ok⟩, .inr (.inl rfl),fun _=>⟨rfl,rfl⟩,fun h1=>absurd h0 h1⟩,T⟩
 by_cases hd:h.ent=h.depth
 ·refine(Rs h j v w H K.ok h0 hd).mono ?_
  rintro _ Y ⟨rfl,T⟩
  exact⟨h.less,false,Bs 2,rfl,⟨.inl ⟨rfl,Ej K.ok h0⟩, .inr (.inr rfl),fun h1=>absurd h1 h0,fun _=>by show h.fuel - 1<h.fuel;omega⟩,T⟩
 ·have hp:=K.ok.f0
  refine(Rr h j q v (fun h1 y er=>er= .nilIface/\(SpP h.inn j q v h1 y)) w H K.ok hj h0 hd (fun X TX=> ?_)).mono ?_
  ·refine(ZbA h.inn j q v X TX.is (ZbJ K h0 hd) G.ac hj hv).mono ?_
   rintro e Y ⟨h1,y,rfl,hD,T⟩
   refine⟨h1,y, .nilIface,rfl,⟨rfl,hD⟩, ?_,T⟩
   rcases hD with rfl|⟨-,rfl, -⟩<;>rfl
  ·rintro e Y ⟨h1,y,er,rfl,⟨rfl,hQ⟩,T⟩
   rcases hQ with rfl|⟨rfl,rfl,hx,hR⟩
   ·rw[Kx] at T
    exact⟨h.less,y, .nilIface,rfl,⟨.inr ⟨rfl, .inl (Ej K.ok h0)⟩, .inl rfl,fun h1=>absurd h1 h0,fun _=>by show h.fuel - 1<h.fuel;omega⟩,T⟩
   ·exact⟨_,true, .nilIface,rfl,⟨.inr ⟨rfl, .inr ⟨rfl,⟨by unfold HP.out HP.inn HP.prot;simp,by show h.fuel - 1<=h.fuel;omega,by show 0<=h.fuel - 1;omega⟩,hx,fun i h1 h2 h3=>hR i h1 h2 (rch_inn h3)⟩⟩, .inl rfl,fun h1=>absurd h1 h0,fun _=>by show h.fuel - 1<h.fuel;omega⟩,T⟩
