import Derived.Test.YtfnohipnenkhoaaGreatDoorRh
set_option linter.all false
namespace Go.Proofs.YtfnohipnenkhoaaGreatDoor
set_option maxRecDepth 100000
set_option maxHeartbeats 0
section
open Go Go.Proofs Go.Maps Go.RowKit FM
structure HP.Gd (h:HP) (N:Nat):Prop where
 wf:h.Wf
 ac:h.Ac
 few:h.Few N
 cap:h.cap<=65536
 room:(h.l.length:Int)<=h.cap
theorem ZdN {v a:VV} (h1:v.k≠7) (h2:a.k≠7):(orV v a).k≠7:=by
 unfold orV
 split<;>assumption
theorem und_k:Dp.k≠7:=by decide
theorem Nf:Av.k≠7:=by decide
theorem fill_k {d:DD} (hg:d.g.k≠7) (hs:d.s.k≠7):(Kw d).g.k≠7/\(Kw d).s.k≠7:=by
 unfold Kw
 split
 ·exact⟨ZdN hg und_k,ZdN hs und_k⟩
 ·exact⟨hg,hs⟩
theorem app_k (x:Bool) {n d:DD} (hn:n.g.k≠7/\n.s.k≠7) (hg:d.g.k≠7) (hs:d.s.k≠7):(Eb x n d).g.k≠7/\(Eb x n d).s.k≠7:=by
 unfold Eb
 split
 ·exact⟨Nf,Nf⟩
 split
 ·split
  ·exact fill_k hg hs
  ·exact⟨Nf,Nf⟩
 split
 ·exact hn
 unfold Rl
 split
 ·exact fill_k hg hs
 ·exact⟨ZdN hg hn.1,ZdN hs hn.2⟩
theorem Zee {x:Bool} {n d:DD} (hF:FD n) (hk:n.g.k≠7/\n.s.k≠7) (hd:FD d) (hg:d.g.k≠7) (hs:d.s.k≠7) (hb:Yk x n d=true):OkD (Eb x n d):=
 ⟨fd_app x hF hd,(app_took hb).2.1.whole,app_k x hk hg hs⟩
theorem get_k {h:HP} (K:h.Wf) {j:Nat} {q:OB} (hj:h.l[j]? =some q) (k:KK):(getD q.T k).g.k≠7/\(getD q.T k).s.k≠7:=by
 cases hf:q.T.find k with
 |none=>
  unfold getD
  rw[hf]
  exact⟨Nf,Nf⟩
 |some r=>exact(ZbD K hj hf).2.2
theorem ZdJ {l:List (KK×DD)} {k:KK} {d:DD} {e:KK×DD} (h:e∈ZcW l k d):e.2=d∨e∈l:=by
 unfold ZcW at h
 split at h
 ·obtain⟨x,hx,rfl⟩:=List.mem_map.1 h
  split
  ·exact .inl rfl
  ·exact .inr hx
 ·rcases List.mem_append.1 h with h|h
  ·exact .inr h
  ·rw[List.mem_singleton.1 h]
   exact .inl rfl
theorem Zdx {h:HP} {j i:Nat} {q' r:OB} (hi:(h.l.set j q')[i]? =some r):(i=j/\r=q')∨(i≠j/\h.l[i]? =some r):=by
 by_cases e:j=i
 ·subst e
  have hlt:j<h.l.length:=by have:=(List.getElem?_eq_some_iff.1 hi).1;simpa using this
  rw[List.getElem?_set_self hlt] at hi
  exact .inl ⟨rfl,(Option.some.inj hi).symm⟩
 ·rw[List.getElem?_set_ne e] at hi
  exact .inr ⟨fun e2=>e e2.symm,hi⟩
theorem Zc7 {h:HP} {N M:Nat} (G:h.Gd N) {j:Nat} {q q':OB} (hj:h.l[j]? =some q) (hw:OB.Wf h.l.length q') (hl:q'.T.last<=M) (hM:N<=M) (hA:({h with l:=h.l.set j q'}:HP).Ac):({h with l:=h.l.set j q'}:HP).Gd M:=by
 have hlen:(h.l.set j q').length=h.l.length:=List.length_set
 refine⟨⟨⟨by show (h.l.set j q').length<=_;rw[hlen];exact G.wf.ok.len,G.wf.ok.f0,G.wf.ok.f1,G.wf.ok.e0,G.wf.ok.e1,G.wf.ok.d1⟩,fun i r hi=> ?_⟩,hA,fun i r hi=> ?_,G.cap,by show ((h.l.set j q').length:Int)<=_;rw[hlen];exact G.room⟩
 ·show OB.Wf (h.l.set j q').length r
  rw[hlen]
  rcases Zdx (h:=h) hi with ⟨-,rfl⟩|⟨-,hi⟩
  ·exact hw
  ·exact G.wf.ob i r hi
 ·rcases Zdx (h:=h) hi with ⟨-,rfl⟩|⟨-,hi⟩
  ·exact hl
  ·exact Nat.le_trans (G.few i r hi) hM
theorem ZdT {h:HP} (A:h.Ac) {j:Nat} {q q':OB} (hj:h.l[j]? =some q) (hp:q'.p=q.p):({h with l:=h.l.set j q'}:HP).Ac:=A.same (fun i r hi=>by
 rcases Zdx (h:=h) hi with ⟨rfl,rfl⟩|⟨-,hi⟩
 ·exact⟨q,hj,hp.symm⟩
 ·exact⟨r,hi,rfl⟩)
theorem ZcM {h:HP} {N M:Nat} (G:h.Gd N) {j:Nat} {q:OB} (hj:h.l[j]? =some q) {T':TT} (hp: ∀e∈pr T',OkD e.2) (hl:T'.last<=M) (hM:N<=M):(h.tab j q T').Gd M:=by
 have K:=G.wf.ob j q hj
 exact Zc7 G hj (q':={q with T:=T'}) ⟨K.c,K.px,K.pk,K.pi,hp⟩ hl hM (ZdT G.ac hj rfl)
theorem shut_gd {h:HP} {N:Nat} (G:h.Gd N) {j:Nat} {q:OB} (hj:h.l[j]? =some q):(h.shut j q).Gd N:=by
 have K:=G.wf.ob j q hj
 exact Zc7 G hj (q':={q with x:=false}) ⟨K.c,K.px,K.pk,K.pi,K.ps⟩ (G.few j q hj) (Nat.le_refl _) (ZdT G.ac hj rfl)
theorem prot_gd {h:HP} {N:Nat} (G:h.Gd N) {j:Nat} {q:OB} (hj:h.l[j]? =some q) {v:VV} (hx:v.x<2^64) (hk:v.k=2∨v.k=7) (hi:v.k=7->1<=v.i/\v.i<=(h.l.length:Int)) (hR: ∀i:Nat,v.k=7->v.i=(i:Int)+1-> ¬Rch h j i):(h.prot j q v).Gd N:=by
 have K:=G.wf.ob j q hj
 exact Zc7 G hj (q':={q with p:=v}) ⟨K.c,hx,hk,hi,K.ps⟩ (G.few j q hj) (Nat.le_refl _) (G.ac.prot hj v hR)
theorem HP.Gd.mono {h:HP} {N M:Nat} (G:h.Gd N) (hM:N<=M):h.Gd M:=⟨G.wf,G.ac,fun j q hj=>Nat.le_trans (G.few j q hj) hM,G.cap,G.room⟩
theorem Ph {h h1:HP} {N:Nat} (G:h.Gd N) (L:Low h h1):h1.Gd N:=⟨L.wf G.wf,G.ac.low L,L.few G.few,by rw[L.eq];exact G.cap,by rw[L.eq];exact G.room⟩
structure Stp (h h1:HP):Prop where
 len:h1.l.length=h.l.length
 cap:h1.cap=h.cap
 depth:h1.depth=h.depth
 ent:h1.ent=h.ent
theorem Stp.refl (h:HP):Stp h h:=⟨rfl,rfl,rfl,rfl⟩
theorem Low.stp {h h1:HP} (L:Low h h1):Stp h h1:=by
 rw[L.eq]
 exact⟨rfl,rfl,rfl,rfl⟩
theorem Zba (h:HP) (j:Nat) (q:OB) (T':TT):Stp h (h.tab j q T'):=⟨List.length_set,rfl,rfl,rfl⟩
theorem Stp.trans {h h1 h2:HP} (A:Stp h h1) (B:Stp h1 h2):Stp h h2:=⟨B.len.trans A.len,B.cap.trans A.cap,B.depth.trans A.depth,B.ent.trans A.ent⟩
theorem DefE.gd {h:HP} {N:Nat} {j:Nat} {q:OB} {k:KK} {d:DD} {h1:HP} {y:Bool} {er:Value} (G:h.Gd N) (hj:h.l[j]? =some q) (hd:FD d) (hg:d.g.k≠7) (hs:d.s.k≠7) (D:DefE h j q k d h1 y er):h1.Gd (N+1)/\Stp h h1:=by
 rcases D with ⟨-,L, -⟩|⟨-, -,hb,T',L,hl,hp⟩
 ·exact⟨(Ph G L).mono (Nat.le_succ _),L.stp⟩
 ·have hO:=Zee (ZbF G.wf hj k) (get_k G.wf hj k) hd hg hs hb
  have h2:(h.tab j q T').Gd (N+1):=ZcM G hj (fun e he=>by
   rw[hp] at he
   rcases ZdJ he with h3|h3
   ·rw[h3];exact hO
   ·exact(G.wf.ob j q hj).ps e h3) (by have:=G.few j q hj;omega) (Nat.le_succ _)
  exact⟨Ph h2 L,(Zba h j q T').trans L.stp⟩
theorem WriP.gd {h:HP} {N:Nat} {j:Nat} {q:OB} {k:KK} {v:VV} {h1:HP} {y:Bool} {er:Value} (G:h.Gd N) (hj:h.l[j]? =some q) (hv:v.x<2^64) (D:WriP h j q k v h1 y er):h1.Gd (N+1)/\Stp h h1:=by
 rcases D with ⟨-,L, -⟩|⟨-, -,d,T',hd,hb,L,hl,hp⟩
 ·exact⟨(Ph G L).mono (Nat.le_succ _),L.stp⟩
 ·have hF:FD d/\d.g.k≠7/\d.s.k≠7:=by
   rcases hd with ⟨rfl, -⟩|⟨rfl, -⟩
   ·exact⟨ZbS hv,Nf,Nf⟩
   ·exact⟨FD_val hv,Nf,Nf⟩
  exact DefE.gd (er:= .nilIface) (y:=true) G hj hF.1 hF.2.1 hF.2.2 (.inr ⟨rfl,rfl,hb,T',L,hl,hp⟩)
theorem SetP.gd {h:HP} {N:Nat} {k:KK} {r v:VV} {h1:HP} {y:Bool} {er:Value} (G:h.Gd N) (hv:v.x<2^64) (D:SetP h r k v h1 y er):h1.Gd (N+1)/\Stp h h1:=by
 rcases D with ⟨-,L, -⟩|⟨i,qr, -, -,hq,hW⟩
 ·exact⟨(Ph G L).mono (Nat.le_succ _),L.stp⟩
 ·exact hW.gd G hq hv
theorem proto_en (h:HP) (j:Nat) (q:OB) (w:World) (H:h.Is w) (N:Nat) (G:h.Gd N) (hj:h.l[j]? =some q):Calls Tryz.prog 82 #[.pointer (some ⟨h.b,0,none⟩), .int .i64 ((j:Int)+1)] w fun e w'=> ∃(h1:HP) (V:VV) (er:Value),e= .returned (.tuple #[V.agg,er])/\((Low h h1/\True)/\Jg h h1 er)/\h.To h1 w w':=by
 have K:=G.wf
 by_cases h0:h.fuel=0
 ·refine(Rg h j  w H h0).mono ?_
  rintro _ Y ⟨rfl,T⟩
  exact⟨h,Av,Br 1,rfl,⟨⟨Low.refl K.ok,trivial⟩, .inr (.inl rfl),fun _=>⟨rfl,rfl⟩,fun h1=>absurd h0 h1⟩,T⟩
 by_cases hd:h.ent=h.depth
 ·refine(Rf h j  w H K.ok h0 hd).mono ?_
  rintro _ Y ⟨rfl,T⟩
  exact⟨h.less,Av,Br 2,rfl,⟨⟨Eh K.ok h0,trivial⟩, .inr (.inr rfl),fun h1=>absurd h1 h0,fun _=>by show h.fuel - 1<h.fuel;omega⟩,T⟩
 ·have hp:=K.ok.f0
  refine(Re h j q  (fun h1 V er=>er= .nilIface/\(h1=h.inn/\True)) w H K.ok hj h0 hd (fun X TX=> ?_)).mono ?_
  ·refine(ZeD h.inn j q X TX.is K.ok.len hj).mono ?_
   rintro e Y ⟨rfl,hb⟩
   exact⟨h.inn,_,_,rfl,⟨rfl,rfl,trivial⟩,rfl,HP.To.refl TX.is hb⟩
  ·rintro e Y ⟨h1,V,er,rfl,⟨rfl,hQ⟩,T⟩
   obtain⟨rfl,hx⟩:=hQ
   rw[Ku] at T
   exact⟨h.less,V, .nilIface,rfl,⟨⟨Eh K.ok h0,hx⟩, .inl rfl,fun h1=>absurd h1 h0,fun _=>by show h.fuel - 1<h.fuel;omega⟩,T⟩
theorem ext_en (h:HP) (j:Nat) (q:OB) (w:World) (H:h.Is w) (N:Nat) (G:h.Gd N) (hj:h.l[j]? =some q):Calls Tryz.prog 84 #[.pointer (some ⟨h.b,0,none⟩), .int .i64 ((j:Int)+1)] w fun e w'=> ∃(h1:HP) (y:Bool) (er:Value),e= .returned (.tuple #[.bool y,er])/\((Low h h1/\True)/\Jg h h1 er)/\h.To h1 w w':=by
 have K:=G.wf
 by_cases h0:h.fuel=0
 ·refine(Vp h j  w H h0).mono ?_
  rintro _ Y ⟨rfl,T⟩
  exact⟨h,false,Br 1,rfl,⟨⟨Low.refl K.ok,trivial⟩, .inr (.inl rfl),fun _=>⟨rfl,rfl⟩,fun h1=>absurd h0 h1⟩,T⟩
 by_cases hd:h.ent=h.depth
 ·refine(Vo h j  w H K.ok h0 hd).mono ?_
  rintro _ Y ⟨rfl,T⟩
  exact⟨h.less,false,Br 2,rfl,⟨⟨Eh K.ok h0,trivial⟩, .inr (.inr rfl),fun h1=>absurd h1 h0,fun _=>by show h.fuel - 1<h.fuel;omega⟩,T⟩
 ·have hp:=K.ok.f0
  refine(Vn h j q  (fun h1 y er=>er= .nilIface/\(h1=h.inn/\True)) w H K.ok hj h0 hd (fun X TX=> ?_)).mono ?_
  ·refine(ord_ext h.inn j q X TX.is K.ok.len hj).mono ?_
   rintro e Y ⟨rfl,hb⟩
   exact⟨h.inn,_,_,rfl,⟨rfl,rfl,trivial⟩,rfl,HP.To.refl TX.is hb⟩
  ·rintro e Y ⟨h1,y,er,rfl,⟨rfl,hQ⟩,T⟩
   obtain⟨rfl,hx⟩:=hQ
   rw[Ku] at T
   exact⟨h.less,y, .nilIface,rfl,⟨⟨Eh K.ok h0,hx⟩, .inl rfl,fun h1=>absurd h1 h0,fun _=>by show h.fuel - 1<h.fuel;omega⟩,T⟩
theorem Vd {T:TT} {W:World} (h:T.Is W):T.live.length<=T.last:=by
 have h1:T.live.length<=T.rows.length:=List.length_filter_le _ _
 have h2:=h.rise
 have h3:=h.num
 clear h
 have key: ∀(l:List RR) (m:Nat),l.Pairwise (fun a b=>a.n<b.n)->(∀r∈l,m<r.n/\r.n<=T.last)->l.length+m<=T.last∨l= []:=by
  intro l
  induction l with
  |nil=>exact fun m _ _=> .inr rfl
  |cons a l ih=>
   intro m hp hn
   left
   rw[List.pairwise_cons] at hp
   rcases ih a.n hp.2 (fun r hr=>⟨hp.1 r hr,(hn r (List.mem_cons_of_mem _ hr)).2⟩) with h|h
   ·have:=(hn a (List.mem_cons_self ..)).1
    simp only[List.length_cons]
    omega
   ·subst h
    have:=hn a (List.mem_cons_self ..)
    simp only[List.length_cons,List.length_nil]
    omega
 rcases key T.rows 0 h2 (fun r hr=>⟨(h3 r hr).1,(h3 r hr).2⟩) with h|h
 ·omega
 ·rw[h] at h1
  simp at h1
  rw[h1]
  exact Nat.zero_le _
theorem sl_form {w:World} {b:Nat} {v:Value} {l:List KK} (h:OwnK w b v l): ∃A n c,v= .slice A n c:=by
 obtain⟨A,c,e⟩:=Gw h
 exact⟨A,_,c,e⟩
theorem keys_en (h:HP) (j:Nat) (q:OB) (w:World) (H:h.Is w) (N:Nat) (G:h.Gd N) (hj:h.l[j]? =some q) (hN:N<=90000) (hT:Tabs w):Calls Tryz.prog 89 #[.pointer (some ⟨h.b,0,none⟩), .int .i64 ((j:Int)+1)] w fun e w'=> ∃(h1:HP) (V:Value) (er:Value),e= .returned (.tuple #[V,er])/\((Low h h1/\(∃A n c,V= .slice A n c))/\Jg h h1 er)/\h.To h1 w w':=by
 have K:=G.wf
 by_cases h0:h.fuel=0
 ·refine(Qn h j  w H h0).mono ?_
  rintro _ Y ⟨rfl,T⟩
  exact⟨h, .slice none 0 0,Br 1,rfl,⟨⟨Low.refl K.ok,_,_,_,rfl⟩, .inr (.inl rfl),fun _=>⟨rfl,rfl⟩,fun h1=>absurd h0 h1⟩,T⟩
 by_cases hd:h.ent=h.depth
 ·refine(Qm h j  w H K.ok h0 hd).mono ?_
  rintro _ Y ⟨rfl,T⟩
  exact⟨h.less, .slice none 0 0,Br 2,rfl,⟨⟨Eh K.ok h0,_,_,_,rfl⟩, .inr (.inr rfl),fun h1=>absurd h1 h0,fun _=>by show h.fuel - 1<h.fuel;omega⟩,T⟩
 ·have hp:=K.ok.f0
  refine(Ql h j q  (fun h1 V er=>er= .nilIface/\(h1=h.inn/\(∃A n c,V= .slice A n c))) w H K.ok hj h0 hd (fun X TX=> ?_)).mono ?_
  ·refine(ord_keys h.inn j q X TX.is K.ok.len hj (TX.tabs H hT) (by have:=G.few j q hj;omega) (by have:=Vd (TX.is.ob hj).2.1;have:=G.few j q hj;omega)).mono ?_
   rintro e Y ⟨v,l9,rfl,hO,hb⟩
   exact⟨h.inn,_,_,rfl,⟨rfl,rfl,sl_form hO⟩,rfl,HP.To.refl TX.is hb⟩
  ·rintro e Y ⟨h1,V,er,rfl,⟨rfl,hQ⟩,T⟩
   obtain⟨rfl,hx⟩:=hQ
   rw[Ku] at T
   exact⟨h.less,V, .nilIface,rfl,⟨⟨Eh K.ok h0,hx⟩, .inl rfl,fun h1=>absurd h1 h0,fun _=>by show h.fuel - 1<h.fuel;omega⟩,T⟩
theorem prev_en (h:HP) (j:Nat) (q:OB) (w:World) (H:h.Is w) (N:Nat) (G:h.Gd N) (hj:h.l[j]? =some q):Calls Tryz.prog 85 #[.pointer (some ⟨h.b,0,none⟩), .int .i64 ((j:Int)+1)] w fun e w'=> ∃(h1:HP) (y:Bool) (er:Value),e= .returned (.tuple #[.bool y,er])/\((((y=false/\Low h h1)∨(y=true/\er= .nilIface/\Low (h.shut j q) h1)))/\Jg h h1 er)/\h.To h1 w w':=by
 have K:=G.wf
 by_cases h0:h.fuel=0
 ·refine(Ou h j  w H h0).mono ?_
  rintro _ Y ⟨rfl,T⟩
  exact⟨h,false,Br 1,rfl,⟨.inl ⟨rfl,Low.refl K.ok⟩, .inr (.inl rfl),fun _=>⟨rfl,rfl⟩,fun h1=>absurd h0 h1⟩,T⟩
 by_cases hd:h.ent=h.depth
 ·refine(Ot h j  w H K.ok h0 hd).mono ?_
  rintro _ Y ⟨rfl,T⟩
  exact⟨h.less,false,Br 2,rfl,⟨.inl ⟨rfl,Eh K.ok h0⟩, .inr (.inr rfl),fun h1=>absurd h1 h0,fun _=>by show h.fuel - 1<h.fuel;omega⟩,T⟩
 ·have hp:=K.ok.f0
  refine(Oq h j q  (fun h1 y er=>er= .nilIface/\(h1=h.inn.shut j q/\y=true)) w H K.ok hj h0 hd (fun X TX=> ?_)).mono ?_
  ·refine(Zcb h.inn j q X TX.is K.ok.len hj).mono ?_
   rintro e Y ⟨rfl,T⟩
   exact⟨_,_,_,rfl,⟨rfl,rfl,rfl⟩,rfl,T⟩
  ·rintro e Y ⟨h1,y,er,rfl,⟨rfl,hQ⟩,T⟩
   obtain⟨rfl,rfl⟩:=hQ
   exact⟨_,true, .nilIface,rfl,⟨.inr ⟨rfl,rfl,⟨by unfold HP.out HP.inn HP.shut;simp,by show h.fuel - 1<=h.fuel;omega,by show 0<=h.fuel - 1;omega⟩⟩, .inl rfl,fun h1=>absurd h1 h0,fun _=>by show h.fuel - 1<h.fuel;omega⟩,T⟩
theorem del_en (h:HP) (j:Nat) (q:OB) (k:KK) (w:World) (H:h.Is w) (N:Nat) (G:h.Gd N) (hj:h.l[j]? =some q) (hN:N<=90000) (hk:OkK k):Calls Tryz.prog 88 #[.pointer (some ⟨h.b,0,none⟩), .int .i64 ((j:Int)+1),k.agg] w fun e w'=> ∃(h1:HP) (y:Bool) (er:Value),e= .returned (.tuple #[.bool y,er])/\((((y=false/\Low h h1)∨(er= .nilIface/\((y=true/\Low h h1)∨(y=true/\ ∃T':TT,Low (h.tab j q T') h1/\T'.last=q.T.last/\pr T'=ZeR (pr q.T) k)))))/\Jg h h1 er)/\h.To h1 w w':=by
 have K:=G.wf
 by_cases h0:h.fuel=0
 ·refine(Zdn h j k w H h0).mono ?_
  rintro _ Y ⟨rfl,T⟩
  exact⟨h,false,Br 1,rfl,⟨.inl ⟨rfl,Low.refl K.ok⟩, .inr (.inl rfl),fun _=>⟨rfl,rfl⟩,fun h1=>absurd h0 h1⟩,T⟩
 by_cases hd:h.ent=h.depth
 ·refine(Zdm h j k w H K.ok h0 hd).mono ?_
  rintro _ Y ⟨rfl,T⟩
  exact⟨h.less,false,Br 2,rfl,⟨.inl ⟨rfl,Eh K.ok h0⟩, .inr (.inr rfl),fun h1=>absurd h1 h0,fun _=>by show h.fuel - 1<h.fuel;omega⟩,T⟩
 ·have hp:=K.ok.f0
  refine(Zdl h j q k (fun h1 y er=>er= .nilIface/\(DelP h.inn j q k h1 y)) w H K.ok hj h0 hd (fun X TX=> ?_)).mono ?_
  ·refine(Zc4 h.inn j q k X TX.is K.ok.len hj hk (by have:=G.few j q hj;omega)).mono ?_
   rintro e Y ⟨h1,y,rfl,hD,T⟩
   refine⟨h1,y, .nilIface,rfl,⟨rfl,hD⟩, ?_,T⟩
   rcases hD with ⟨-,rfl, -⟩|⟨-, -,rfl, -⟩|⟨-, -, -,T',rfl, -⟩<;>rfl
  ·rintro e Y ⟨h1,y,er,rfl,⟨rfl,hQ⟩,T⟩
   rcases hQ with ⟨-,rfl,rfl⟩|⟨-, -,rfl,rfl⟩|⟨-, -,rfl,T',rfl,hl,hp⟩
   ·rw[Ku] at T
    exact⟨h.less,true, .nilIface,rfl,⟨.inr ⟨rfl, .inl ⟨rfl,Eh K.ok h0⟩⟩, .inl rfl,fun h1=>absurd h1 h0,fun _=>by show h.fuel - 1<h.fuel;omega⟩,T⟩
   ·rw[Ku] at T
    exact⟨h.less,false, .nilIface,rfl,⟨.inl ⟨rfl,Eh K.ok h0⟩, .inl rfl,fun h1=>absurd h1 h0,fun _=>by show h.fuel - 1<h.fuel;omega⟩,T⟩
   ·exact⟨_,true, .nilIface,rfl,⟨.inr ⟨rfl, .inr ⟨rfl,T',⟨by unfold HP.out HP.inn HP.tab;simp,by show h.fuel - 1<=h.fuel;omega,by show 0<=h.fuel - 1;omega⟩,hl,hp⟩⟩, .inl rfl,fun h1=>absurd h1 h0,fun _=>by show h.fuel - 1<h.fuel;omega⟩,T⟩
theorem rch_inn {h:HP} {o x:Nat} (hr:Rch h o x):Rch h.inn o x:=by
 induction hr with
 |here=>exact .here
 |step a b c _ ih=>exact .step (h:=h.inn) a b c ih
theorem setp_en (h:HP) (j:Nat) (q:OB) (v:VV) (w:World) (H:h.Is w) (N:Nat) (G:h.Gd N) (hj:h.l[j]? =some q) (hv:v.k=7->1<=v.i/\v.i<=(h.l.length:Int)):Calls Tryz.prog 83 #[.pointer (some ⟨h.b,0,none⟩), .int .i64 ((j:Int)+1),v.agg] w fun e w'=> ∃(h1:HP) (y:Bool) (er:Value),e= .returned (.tuple #[.bool y,er])/\((((y=false/\Low h h1)∨(er= .nilIface/\(Low h h1∨(y=true/\Low (h.prot j q v) h1/\q.x=true/\ ∀i:Nat,v.k=7->v.i=(i:Int)+1-> ¬Rch h j i)))))/\Jg h h1 er)/\h.To h1 w w':=by
 have K:=G.wf
 by_cases h0:h.fuel=0
 ·refine(Rd h j v w H h0).mono ?_
  rintro _ Y ⟨rfl,T⟩
  exact⟨h,false,Br 1,rfl,⟨.inl ⟨rfl,Low.refl K.ok⟩, .inr (.inl rfl),fun _=>⟨rfl,rfl⟩,fun h1=>absurd h0 h1⟩,T⟩
 by_cases hd:h.ent=h.depth
 ·refine(Rc h j v w H K.ok h0 hd).mono ?_
  rintro _ Y ⟨rfl,T⟩
  exact⟨h.less,false,Br 2,rfl,⟨.inl ⟨rfl,Eh K.ok h0⟩, .inr (.inr rfl),fun h1=>absurd h1 h0,fun _=>by show h.fuel - 1<h.fuel;omega⟩,T⟩
 ·have hp:=K.ok.f0
  refine(Rb h j q v (fun h1 y er=>er= .nilIface/\(SpP h.inn j q v h1 y)) w H K.ok hj h0 hd (fun X TX=> ?_)).mono ?_
  ·refine(Zbp h.inn j q v X TX.is (Zby K h0 hd) G.ac hj hv).mono ?_
   rintro e Y ⟨h1,y,rfl,hD,T⟩
   refine⟨h1,y, .nilIface,rfl,⟨rfl,hD⟩, ?_,T⟩
   rcases hD with rfl|⟨-,rfl, -⟩<;>rfl
  ·rintro e Y ⟨h1,y,er,rfl,⟨rfl,hQ⟩,T⟩
   rcases hQ with rfl|⟨rfl,rfl,hx,hR⟩
   ·rw[Ku] at T
    exact⟨h.less,y, .nilIface,rfl,⟨.inr ⟨rfl, .inl (Eh K.ok h0)⟩, .inl rfl,fun h1=>absurd h1 h0,fun _=>by show h.fuel - 1<h.fuel;omega⟩,T⟩
   ·exact⟨_,true, .nilIface,rfl,⟨.inr ⟨rfl, .inr ⟨rfl,⟨by unfold HP.out HP.inn HP.prot;simp,by show h.fuel - 1<=h.fuel;omega,by show 0<=h.fuel - 1;omega⟩,hx,fun i h1 h2 h3=>hR i h1 h2 (rch_inn h3)⟩⟩, .inl rfl,fun h1=>absurd h1 h0,fun _=>by show h.fuel - 1<h.fuel;omega⟩,T⟩
end
section
open Go Go.Proofs Go.Maps Go.RowKit FM Tryz
attribute [local go_sem] Ao Am Au Ah Ap Ai Ax Dn Dm Bq Aj Bp
theorem Db {o:Oper} {a:Act} {W:World} {x:Operand} {B p:Nat} {vs:List Value} (t:TypeId) (n:Nat) (hu: ∃d,prog.underlying t=some d/\d.isRow=true) (hi:(prog.info? t).map (·.size)=some n) (ho:o.op= .load t x) (hx:a.eval x= .pointer (some ⟨B,p,none⟩)) (h0:W.rangeAt B p vs) (hn:vs.length=n):(execOp a.eval o).run prog W= .ok (.value (.agg vs.toArray)) W:=by
 obtain⟨d,hu,hd⟩:=hu
 unfold execOp
 simp only[ho,hx,Instr.loadAt,Instr.sureAddr,Sem.run_bind,Sem.run_pure,Result.andThen_ok,run_loadVar_mid W B p t vs d h0 hu hd (by rw[hi,hn])]
theorem Oa {w:World} {b p:Nat} {a c:List Value} (h:w.rangeAt b p (a++c)):w.rangeAt b p a:=fun j v hv=>h j v (by rw[List.getElem?_append_left (List.getElem?_eq_some_iff.1 hv).1];exact hv)
theorem Mu {w:World} {b p:Nat} {a c:List Value} (h:w.rangeAt b p (a++c)):w.rangeAt b (p+a.length) c:=fun j v hv=>by
 have:=h (a.length+j) v (by rw[List.getElem?_append_right (by omega)];simpa using hv)
 rwa [←Nat.add_assoc] at this
theorem Az {o:Oper} {a:Act} {w:World} {x ix:Operand} {g off n cap:Nat} (t:TypeId) (sz j:Nat) (hk:prog.underlying t=some (.slice (prog.elem t))) (he: ∀w,(sizeOf (prog.elem t)).run prog w= .ok sz w) (ho:o.op= .indexAddr t x ix) (hx:a.eval x= .slice (some ⟨g,off,none⟩) n cap) (hix:a.eval ix= .int .i64 (j:Nat)) (hj:j<n):(execOp a.eval o).run prog w= .ok (.value (.pointer (some ⟨g,off+j * sz,none⟩))) w:=by
 have h1:(Instr.indexAt t (.slice (some ⟨g,off,none⟩) n cap) (.int .i64 (j:Nat))).run prog w= .ok (.pointer (some ⟨g,off+j * sz,none⟩)) w:=by
  rw[run_indexAt_slice (h:=hk),if_pos ⟨by omega,by omega⟩,he]
  have e2:(Addr.add ⟨g,off,none⟩ ((j:Int).toNat * sz))=⟨g,off+j * sz,none⟩:=by
   rw[Addr.add_mid]
   simp
  show Result.ok (Value.pointer (some (Addr.add ⟨g,off,none⟩ ((j:Int).toNat * sz)))) w=_
  rw[e2]
 unfold execOp
 simp only[ho,hx,hix]
 simp[h1]
def orE:List Int->Int
 | []=>0
 |e::l=>if e=0 then orE l else e
theorem ZdO: ∀(l:List Int) (i:Nat) (e:Int),(∀j u,j<i->l[j]? =some u->u=0)->l[i]? =some e->e≠0->orE l=e
 | [],i,e,_,h,_=>by simp at h
 |x::l,0,e,_,h,h0=>by
  obtain rfl:x=e:=by simpa using h
  simp[orE,h0]
 |x::l,i+1,e,ha,h,h0=>by
  have hx:x=0:=ha 0 x (by omega) rfl
  simp only[orE,hx,if_true]
  exact ZdO l i e (fun j u hj hu=>ha (j+1) u (by omega) (by simpa using hu)) (by simpa using h) h0
theorem Zcd: ∀(l:List Int),(∀j u,j<l.length->l[j]? =some u->u=0)->orE l=0
 | [],_=>rfl
 |x::l,ha=>by
  have hx:x=0:=ha 0 x (by simp) rfl
  simp only[orE,hx,if_true]
  exact Zcd l (fun j u hj hu=>ha (j+1) u (by simpa using hj) (by simpa using hu))
def Ns (l:List Int):List Value:=l.map (fun e=> .int .i64 e)
def Gt (w:World) (A:Option Addr) (l:List VV):Prop:= ∀(j:Nat) (v:VV),l[j]? =some v-> ∃b off,A=some ⟨b,off,none⟩/\b<w.heap.size/\w.rangeAt b (off+j * 5) v.cs
theorem Ea {w X:World} {b p:Nat} {cs:List Value} (h:w.rangeAt b p cs) (hb:b<w.heap.size) (k:Below w.heap.size w X):X.rangeAt b p cs:=fun j v hv=>by
 have e:=h j v hv
 have h1:=k.block b hb
 unfold World.cell? at e ⊢
 dsimp only at e ⊢
 rw[h1]
 exact e
theorem Ze7 (h:HP) (o:Int) (w:World) (H:h.Is w) (hl:h.l.length<=65536):Calls prog 79 #[.pointer (some ⟨h.b,0,none⟩), .int .i64 o] w fun e w'=>e= .returned (.tuple #[.nilIface, .int .i64 8])/\w'=w:=by
 obtain⟨z,hz⟩: ∃z,Qx o h.l.length=z:=⟨_,rfl⟩
 have HA:=Zd0 h o w H
 rw[hz] at HA
 cases z
 ·go_enter func79,ntmps79
  go_wp2_with fail
  refine HA.mono ?_
  rintro _ _ ⟨rfl,rfl⟩
  go_wp2
  go_ret2
  exact⟨rfl,rfl⟩
 ·obtain⟨j,q,ho,hj⟩:=Nt hz
  have HT:=Kd h j q w H hj hl
  rw[←ho] at HT
  have HO:=Ab (H.ob hj).1
  clear ho
  go_enter func79,ntmps79
  go_wp2_with fail
  refine HA.mono ?_
  rintro _ _ ⟨rfl,rfl⟩
  go_wp2_with fail
  refine HT.mono ?_
  rintro _ _ ⟨rfl,rfl⟩
  go_wp2_with (first|go_skip|((with_reducible show wpList ..);(refine rd rfl (Ad 99 isAgg99 rfl rfl (Aa HO) rfl) ?_;simp only[nn])))
  go_ret2
  exact⟨rfl,rfl⟩
theorem Xl (h:HP) (o:Int) (w:World) (H:h.Is w) (hl:h.l.length<=65536):Calls prog 55 #[.pointer (some ⟨h.b,0,none⟩), .int .i64 o] w fun e w'=>e= .returned (.int .i64 8)/\w'=w:=by
 have HA:=Ze7 h o w H hl
 clear H
 go_enter func55,ntmps55
 go_wp2_with fail
 refine HA.mono ?_
 rintro _ _ ⟨rfl,rfl⟩
 go_wp2
 go_ret
 exact⟨rfl,rfl⟩
theorem Gv {o:Oper} {a:Act} {w:World} {x y:Operand} {n m:Int} (ho:o.op= .binOp .neq 28 x y 28) (hx:a.eval x= .int .i64 n) (hc:a.eval y= .int .i64 m) (h:n≠m):(execOp a.eval o).run prog w= .ok (.value (.bool true)) w:=by
 unfold execOp
 simp only[ho,hx,hc]
 simp[go_sem,eqGuard,h]
theorem Kx {o:Oper} {a:Act} {w:World} {x y:Operand} {n m:Int} (ho:o.op= .binOp .neq 28 x y 28) (hx:a.eval x= .int .i64 n) (hc:a.eval y= .int .i64 m) (h:n=m):(execOp a.eval o).run prog w= .ok (.value (.bool false)) w:=by
 unfold execOp
 simp only[ho,hx,hc]
 simp[go_sem,eqGuard,h]
theorem Lw (B c:Nat) (es:List Int) (w:World) (hR:Holds w B (Ns es)) (hz:es.length<=100):Calls prog 28 #[.slice (some ⟨B,0,none⟩) es.length c] w fun e w'=>e= .returned (.int .i64 (orE es))/\w'=w:=by
 have HR:=Ab hR
 have HZ:=Ab hz
 clear hR hz
 go_enter func28,ntmps28
 go_wp2_with (first|go_skip|((with_reducible show wpList ..);(refine rd rfl (Bm 110 28 underlying110 rfl rfl) ?_;simp only[nn])))
 go_loopg [8] es.length (fun gm s8 wr=> ∃i:Nat,s8= .int .i64 (i:Nat)/\i<=es.length/\es.length - i<=gm/\Hid (∀j u,j<i->es[j]? =some u->u=0)/\wr=w)
 case atStart=>exact⟨0,rfl,by omega,by omega,Ab (fun j v hj=>by omega),rfl⟩
 case round=>
  obtain⟨i,rfl,hil,hgm,HD,rfl⟩:=hrel
  by_cases hlt:i<es.length
  ·have dlt:decide ((i:Int)<(es.length:Int))=true:=decide_eq_true (by omega)
   have hw1:IntKind.i64.wrap ((i:Int)+1)=(i:Int)+1:=by have:=Aa HZ;rw[IntKind.wrap_i64];omega
   obtain⟨e,he⟩: ∃e,es[i]? =some e:=⟨_,List.getElem?_eq_getElem hlt⟩
   have HC:Hid (wr.cell? ⟨B,0+i * 1,none⟩=some (.int .i64 e)):=Ab (by
    have:=(Aa HR).cell i (v:= .int .i64 e) (by unfold Ns;rw[List.getElem?_map,he];rfl)
    rw[Nat.zero_add,Nat.mul_one]
    exact this)
   have HLT:=Ab hlt
   clear hlt hil
   by_cases h0:e=0
   ·have HD2:Hid (∀j u,j<i+1->es[j]? =some u->u=0):=Ab (fun j u hj hu=>by
     rcases Nat.lt_or_ge j i with h|h
     ·exact Aa HD j u h hu
     ·obtain rfl:j=i:=by omega
      exact(Option.some.inj (he.symm.trans hu))▸h0)
    clear he HD
    go_wp2_with (first|go_skip|((with_reducible show wpList ..);first|(refine rd rfl (Az 110 1 i unEs idEs rfl rfl rfl (Aa HLT)) ?_;simp only[nn])|(refine rd rfl (Un 28 isAgg28 rfl rfl (Aa HC)) ?_;simp only[nn])|(refine rd rfl (Kx rfl rfl rfl h0) ?_;simp only[nn])))
    go_roundg (es.length - (i+1))
    case measure=>have:=Aa HLT;omega
    case rel=>exact⟨i+1,by go_num,by have:=Aa HLT;omega,by omega,HD2,rfl⟩
   ·have HE:Hid (orE es=e):=Ab (ZdO es i e (Aa HD) he h0)
    clear he HD
    go_wp2_with (first|go_skip|((with_reducible show wpList ..);first|(refine rd rfl (Az 110 1 i unEs idEs rfl rfl rfl (Aa HLT)) ?_;simp only[nn])|(refine rd rfl (Un 28 isAgg28 rfl rfl (Aa HC)) ?_;simp only[nn])|(refine rd rfl (Gv rfl rfl rfl h0) ?_;simp only[nn])))
    go_ret
    exact⟨by rw[Aa HE];rfl,rfl⟩
  ·obtain rfl:i=es.length:=by omega
   have HE:Hid (orE es=0):=Ab (Zcd es (Aa HD))
   clear hlt hil HD
   go_wp2
   go_ret
   exact⟨by rw[Aa HE];rfl,rfl⟩
theorem Ro {f:VV->Bool} {l:List VV} {i:Nat} {v:VV} (hv:l[i]? =some v) (hf:f v=false):l.all f=false:=by
 rw[List.all_eq_false]
 exact⟨v,List.mem_of_getElem? hv,by simp[hf]⟩
theorem Vw {f:VV->Bool} {l:List VV} (h: ∀j v,j<l.length->l[j]? =some v->f v=true):l.all f=true:=by
 rw[List.all_eq_true]
 intro v hv
 obtain⟨j,hj⟩:=List.getElem?_of_mem hv
 exact h j v (List.getElem?_eq_some_iff.1 hj).1 hj
def Mi (n:Nat) (v:VV):Bool:= !(v.k==7)||Qx v.i n
def Aw (n:Nat) (vs:List VV):Int:=if vs.all (Mi n) then 0 else 4
def Bh (vs:List VV):Int:=if vs.all VV.good then 0 else 5
def Vz (v:VV):Bool:= !(v.k==7)
def Gg (vs:List VV):Int:=if vs.all Vz then 0 else 8
theorem Uh (h:HP) (B:Option Addr) (c:Nat) (vs:List VV) (w:World) (H:h.Is w) (hR:Gt w B vs) (hz:vs.length<=1000000):Calls prog 32 #[.pointer (some ⟨h.b,0,none⟩), .slice B vs.length c] w fun e w'=>e= .returned (.int .i64 (Aw h.l.length vs))/\Below w.heap.size w w':=by
 have SS:=Ab (Sy.nil w [])
 have HH:=Ab H
 clear H
 have HR:=Ab hR
 have HZ:=Ab hz
 clear hR hz
 go_enter func32,ntmps32
 go_wp2_with (first|go_skip|((with_reducible show wpList ..);(refine rd rfl (Bm 41 36 underlying41 rfl rfl) ?_;simp only[nn])))
 go_loopg [9] vs.length (fun gm s9 wr=> ∃i:Nat,s9= .int .i64 (i:Nat)/\i<=vs.length/\vs.length - i<=gm/\Hid (∀j v,j<i->vs[j]? =some v->Mi h.l.length v=true)/\Hid (Sy w wr [] []))
 case atStart=>exact⟨0,rfl,by omega,by omega,Ab (fun j v hj=>by omega),SS⟩
 case round=>
  clear SS
  obtain⟨i,rfl,hil,hgm,HD,SS⟩:=hrel
  by_cases hlt:i<vs.length
  ·have dlt:decide ((i:Int)<(vs.length:Int))=true:=decide_eq_true (by omega)
   have hw1:IntKind.i64.wrap ((i:Int)+1)=(i:Int)+1:=by have:=Aa HZ;rw[IntKind.wrap_i64];omega
   obtain⟨v,hv⟩: ∃v,vs[i]? =some v:=⟨_,List.getElem?_eq_getElem hlt⟩
   obtain⟨b,off,hA,hb,hrg⟩:=(Aa HR) i v hv
   subst hA
   have HA2:Hid (∀X,Below w.heap.size w X->X.rangeAt b (off+i * 5) v.cs):=Ab (fun X hX=>Ea hrg hb hX)
   have HLT:=Ab hlt
   clear hb hrg hlt hil
   by_cases hk:v.k=7
   ·obtain⟨z,hz⟩: ∃z,Qx v.i h.l.length=z:=⟨_,rfl⟩
    cases z
    ·have HFA:Hid (vs.all (Mi h.l.length)=false):=Ab (Ro hv (by unfold Mi;rw[hz];simp[hk]))
     go_wp2_with (first|go_skip|((with_reducible show wpList ..);first|(refine rd rfl (Az 41 5 i Lu Lx rfl rfl rfl (Aa HLT)) ?_;simp only[nn])|(refine rd rfl (Db (vs:=v.cs) 36 5 rwV szV rfl rfl (Aa HA2 _ (Aa SS).fr.below) rfl) ?_;simp only[nn])|(refine zA 36 (Av.cs) (by rfl) rfl SS ?_;clear SS;intro X3 B3 SS;simp only[nn])|(refine zS (v.cs) 0 36 (by rfl) rfl rfl rfl rfl (Ek v) szV SS rfl ?_;clear SS;intro X4 SS;simp only[nn])|(refine rd rfl (Ad 3 isAgg3 rfl rfl ((Aa SS).hold 0 rfl) rfl) ?_;simp only[nn])|(refine rd rfl (Gz rfl rfl rfl hk) ?_;simp only[nn])))
     have HO:=Zd0 h v.i _ ((Aa HH).on (Aa SS).fr.below)
     rw[hz] at HO
     refine HO.mono ?_
     rintro e X5 ⟨rfl,rfl⟩
     go_wp2
     go_ret
     exact⟨by unfold Aw;rw[Aa HFA];rfl,(Aa SS).fr.below⟩
    ·have HD2:Hid (∀j u,j<i+1->vs[j]? =some u->Mi h.l.length u=true):=Ab (fun j u hj hu=>by
      rcases Nat.lt_or_ge j i with h|h
      ·exact Aa HD j u h hu
      ·obtain rfl:j=i:=by omega
       obtain rfl:v=u:=Option.some.inj (hv.symm.trans hu)
       exact(by unfold Mi;rw[hz];simp))
     clear HD
     go_wp2_with (first|go_skip|((with_reducible show wpList ..);first|(refine rd rfl (Az 41 5 i Lu Lx rfl rfl rfl (Aa HLT)) ?_;simp only[nn])|(refine rd rfl (Db (vs:=v.cs) 36 5 rwV szV rfl rfl (Aa HA2 _ (Aa SS).fr.below) rfl) ?_;simp only[nn])|(refine zA 36 (Av.cs) (by rfl) rfl SS ?_;clear SS;intro X3 B3 SS;simp only[nn])|(refine zS (v.cs) 0 36 (by rfl) rfl rfl rfl rfl (Ek v) szV SS rfl ?_;clear SS;intro X4 SS;simp only[nn])|(refine rd rfl (Ad 3 isAgg3 rfl rfl ((Aa SS).hold 0 rfl) rfl) ?_;simp only[nn])|(refine rd rfl (Gz rfl rfl rfl hk) ?_;simp only[nn])))
     have HO:=Zd0 h v.i _ ((Aa HH).on (Aa SS).fr.below)
     rw[hz] at HO
     refine HO.mono ?_
     rintro e X5 ⟨rfl,rfl⟩
     replace SS:=Ab (Sy.left (L:= []) (M:= [_]) (Aa SS))
     go_wp2
     go_roundg (vs.length - (i+1))
     case measure=>have:=Aa HLT;omega
     case rel=>exact⟨i+1,by go_num,by have:=Aa HLT;omega,by omega,HD2,SS⟩
   ·have HD2:Hid (∀j u,j<i+1->vs[j]? =some u->Mi h.l.length u=true):=Ab (fun j u hj hu=>by
     rcases Nat.lt_or_ge j i with h|h
     ·exact Aa HD j u h hu
     ·obtain rfl:j=i:=by omega
      obtain rfl:v=u:=Option.some.inj (hv.symm.trans hu)
      exact(by unfold Mi;simp[hk]))
    clear HD
    go_wp2_with (first|go_skip|((with_reducible show wpList ..);first|(refine rd rfl (Az 41 5 i Lu Lx rfl rfl rfl (Aa HLT)) ?_;simp only[nn])|(refine rd rfl (Db (vs:=v.cs) 36 5 rwV szV rfl rfl (Aa HA2 _ (Aa SS).fr.below) rfl) ?_;simp only[nn])|(refine zA 36 (Av.cs) (by rfl) rfl SS ?_;clear SS;intro X3 B3 SS;simp only[nn])|(refine zS (v.cs) 0 36 (by rfl) rfl rfl rfl rfl (Ek v) szV SS rfl ?_;clear SS;intro X4 SS;simp only[nn])|(refine rd rfl (Ad 3 isAgg3 rfl rfl ((Aa SS).hold 0 rfl) rfl) ?_;simp only[nn])|(refine rd rfl (Kg rfl rfl rfl hk) ?_;simp only[nn])))
    replace SS:=Ab (Sy.left (L:= []) (M:= [_]) (Aa SS))
    go_wp2
    go_roundg (vs.length - (i+1))
    case measure=>have:=Aa HLT;omega
    case rel=>exact⟨i+1,by go_num,by have:=Aa HLT;omega,by omega,HD2,SS⟩
  ·obtain rfl:i=vs.length:=by omega
   have HTA:Hid (vs.all (Mi h.l.length)=true):=Ab (Vw (fun j v hj hv=>Aa HD j v hj hv))
   clear hlt hil HD
   go_wp2_with (go_skip)
   go_ret
   exact⟨by unfold Aw;rw[Aa HTA];rfl,(Aa SS).fr.below⟩
theorem Zbe (B:Option Addr) (c:Nat) (vs:List VV) (w:World) (hT:Lib.Utf8Tabs 1 2 w) (hR:Gt w B vs) (hz:vs.length<=1000000):Calls prog 35 #[.slice B vs.length c] w fun e w'=>e= .returned (.int .i64 (Bh vs))/\Below w.heap.size w w':=by
 have SS:=Ab (Sy.nil w [])
 have HT:=Ab hT
 clear hT
 have HR:=Ab hR
 have HZ:=Ab hz
 clear hR hz
 go_enter func35,ntmps35
 go_wp2_with (first|go_skip|((with_reducible show wpList ..);(refine rd rfl (Bm 41 36 underlying41 rfl rfl) ?_;simp only[nn])))
 go_loopg [8] vs.length (fun gm s9 wr=> ∃i:Nat,s9= .int .i64 (i:Nat)/\i<=vs.length/\vs.length - i<=gm/\Hid (∀j v,j<i->vs[j]? =some v->VV.good v=true)/\Hid (Sy w wr [] []))
 case atStart=>exact⟨0,rfl,by omega,by omega,Ab (fun j v hj=>by omega),SS⟩
 case round=>
  clear SS
  obtain⟨i,rfl,hil,hgm,HD,SS⟩:=hrel
  by_cases hlt:i<vs.length
  ·have dlt:decide ((i:Int)<(vs.length:Int))=true:=decide_eq_true (by omega)
   have hw1:IntKind.i64.wrap ((i:Int)+1)=(i:Int)+1:=by have:=Aa HZ;rw[IntKind.wrap_i64];omega
   obtain⟨v,hv⟩: ∃v,vs[i]? =some v:=⟨_,List.getElem?_eq_getElem hlt⟩
   obtain⟨b,off,hA,hb,hrg⟩:=(Aa HR) i v hv
   subst hA
   have HA2:Hid (∀X,Below w.heap.size w X->X.rangeAt b (off+i * 5) v.cs):=Ab (fun X hX=>Ea hrg hb hX)
   have HLT:=Ab hlt
   clear hb hrg hlt hil
   obtain⟨z,hz⟩: ∃z,v.good=z:=⟨_,rfl⟩
   cases z
   ·have HFA:Hid (vs.all (VV.good)=false):=Ab (Ro hv hz)
    go_wp2_with (first|go_skip|((with_reducible show wpList ..);first|(refine rd rfl (Az 41 5 i Lu Lx rfl rfl rfl (Aa HLT)) ?_;simp only[nn])|(refine rd rfl (Db (vs:=v.cs) 36 5 rwV szV rfl rfl (Aa HA2 _ (Aa SS).fr.below) rfl) ?_;simp only[nn])|(refine zA 36 (Av.cs) (by rfl) rfl SS ?_;clear SS;intro X3 B3 SS;simp only[nn])|(refine zS (v.cs) 0 36 (by rfl) rfl rfl rfl rfl (Ek v) szV SS rfl ?_;clear SS;intro X4 SS;simp only[nn])|(refine zL (v.cs) 36 5 0 rwV szV (by rfl) rfl rfl SS rfl rfl rfl ?_;simp only[nn])))
    have HO:=Mf v _ (Ar (Aa HT) (Aa SS).fr.below)
    rw[By] at HO
    refine HO.mono ?_
    rintro e X5 ⟨rfl,hb5⟩
    replace SS:=Ab ((Aa SS).on hb5)
    clear hb5 HO
    rw[show Zai v.good=5 by rw[hz];rfl]
    go_wp2
    go_ret
    exact⟨by unfold Bh;rw[Aa HFA];rfl,(Aa SS).fr.below⟩
   ·have HD2:Hid (∀j u,j<i+1->vs[j]? =some u->VV.good u=true):=Ab (fun j u hj hu=>by
     rcases Nat.lt_or_ge j i with h|h
     ·exact Aa HD j u h hu
     ·obtain rfl:j=i:=by omega
      obtain rfl:v=u:=Option.some.inj (hv.symm.trans hu)
      exact hz)
    clear HD
    go_wp2_with (first|go_skip|((with_reducible show wpList ..);first|(refine rd rfl (Az 41 5 i Lu Lx rfl rfl rfl (Aa HLT)) ?_;simp only[nn])|(refine rd rfl (Db (vs:=v.cs) 36 5 rwV szV rfl rfl (Aa HA2 _ (Aa SS).fr.below) rfl) ?_;simp only[nn])|(refine zA 36 (Av.cs) (by rfl) rfl SS ?_;clear SS;intro X3 B3 SS;simp only[nn])|(refine zS (v.cs) 0 36 (by rfl) rfl rfl rfl rfl (Ek v) szV SS rfl ?_;clear SS;intro X4 SS;simp only[nn])|(refine zL (v.cs) 36 5 0 rwV szV (by rfl) rfl rfl SS rfl rfl rfl ?_;simp only[nn])))
    have HO:=Mf v _ (Ar (Aa HT) (Aa SS).fr.below)
    rw[By] at HO
    refine HO.mono ?_
    rintro e X5 ⟨rfl,hb5⟩
    replace SS:=Ab ((Aa SS).on hb5)
    clear hb5 HO
    rw[show Zai v.good=0 by rw[hz];rfl]
    replace SS:=Ab (Sy.left (L:= []) (M:= [_]) (Aa SS))
    go_wp2
    go_roundg (vs.length - (i+1))
    case measure=>have:=Aa HLT;omega
    case rel=>exact⟨i+1,by go_num,by have:=Aa HLT;omega,by omega,HD2,SS⟩
  ·obtain rfl:i=vs.length:=by omega
   have HTA:Hid (vs.all (VV.good)=true):=Ab (Vw (fun j v hj hv=>Aa HD j v hj hv))
   clear hlt hil HD
   go_wp2_with (go_skip)
   go_ret
   exact⟨by unfold Bh;rw[Aa HTA];rfl,(Aa SS).fr.below⟩
theorem acc_h (h:HP) (B:Option Addr) (c:Nat) (vs:List VV) (w:World) (H:h.Is w) (hl:h.l.length<=65536) (hR:Gt w B vs) (hz:vs.length<=1000000):Calls prog 33 #[.pointer (some ⟨h.b,0,none⟩), .slice B vs.length c] w fun e w'=>e= .returned (.int .i64 (Gg vs))/\Below w.heap.size w w':=by
 have SS:=Ab (Sy.nil w [])
 have HH:=Ab H
 clear H
 have HR:=Ab hR
 have HZ:=Ab hz
 clear hR hz
 go_enter func33,ntmps33
 go_wp2_with (first|go_skip|((with_reducible show wpList ..);(refine rd rfl (Bm 41 36 underlying41 rfl rfl) ?_;simp only[nn])))
 go_loopg [9] vs.length (fun gm s9 wr=> ∃i:Nat,s9= .int .i64 (i:Nat)/\i<=vs.length/\vs.length - i<=gm/\Hid (∀j v,j<i->vs[j]? =some v->Vz v=true)/\Hid (Sy w wr [] []))
 case atStart=>exact⟨0,rfl,by omega,by omega,Ab (fun j v hj=>by omega),SS⟩
 case round=>
  clear SS
  obtain⟨i,rfl,hil,hgm,HD,SS⟩:=hrel
  by_cases hlt:i<vs.length
  ·have dlt:decide ((i:Int)<(vs.length:Int))=true:=decide_eq_true (by omega)
   have hw1:IntKind.i64.wrap ((i:Int)+1)=(i:Int)+1:=by have:=Aa HZ;rw[IntKind.wrap_i64];omega
   obtain⟨v,hv⟩: ∃v,vs[i]? =some v:=⟨_,List.getElem?_eq_getElem hlt⟩
   obtain⟨b,off,hA,hb,hrg⟩:=(Aa HR) i v hv
   subst hA
   have HA2:Hid (∀X,Below w.heap.size w X->X.rangeAt b (off+i * 5) v.cs):=Ab (fun X hX=>Ea hrg hb hX)
   have HLT:=Ab hlt
   clear hb hrg hlt hil
   by_cases hk:v.k=7
   ·have HFA:Hid (vs.all (Vz)=false):=Ab (Ro hv (by unfold Vz;simp[hk]))
    go_wp2_with (first|go_skip|((with_reducible show wpList ..);first|(refine rd rfl (Az 41 5 i Lu Lx rfl rfl rfl (Aa HLT)) ?_;simp only[nn])|(refine rd rfl (Db (vs:=v.cs) 36 5 rwV szV rfl rfl (Aa HA2 _ (Aa SS).fr.below) rfl) ?_;simp only[nn])|(refine zA 36 (Av.cs) (by rfl) rfl SS ?_;clear SS;intro X3 B3 SS;simp only[nn])|(refine zS (v.cs) 0 36 (by rfl) rfl rfl rfl rfl (Ek v) szV SS rfl ?_;clear SS;intro X4 SS;simp only[nn])|(refine rd rfl (Ad 3 isAgg3 rfl rfl ((Aa SS).hold 0 rfl) rfl) ?_;simp only[nn])|(refine rd rfl (Gz rfl rfl rfl hk) ?_;simp only[nn])))
    refine(Xl h v.i _ ((Aa HH).on (Aa SS).fr.below) hl).mono ?_
    rintro e X5 ⟨rfl,rfl⟩
    go_wp2
    go_ret
    exact⟨by unfold Gg;rw[Aa HFA];rfl,(Aa SS).fr.below⟩
   ·have HD2:Hid (∀j u,j<i+1->vs[j]? =some u->Vz u=true):=Ab (fun j u hj hu=>by
     rcases Nat.lt_or_ge j i with h|h
     ·exact Aa HD j u h hu
     ·obtain rfl:j=i:=by omega
      obtain rfl:v=u:=Option.some.inj (hv.symm.trans hu)
      exact(by unfold Vz;simp[hk]))
    clear HD
    go_wp2_with (first|go_skip|((with_reducible show wpList ..);first|(refine rd rfl (Az 41 5 i Lu Lx rfl rfl rfl (Aa HLT)) ?_;simp only[nn])|(refine rd rfl (Db (vs:=v.cs) 36 5 rwV szV rfl rfl (Aa HA2 _ (Aa SS).fr.below) rfl) ?_;simp only[nn])|(refine zA 36 (Av.cs) (by rfl) rfl SS ?_;clear SS;intro X3 B3 SS;simp only[nn])|(refine zS (v.cs) 0 36 (by rfl) rfl rfl rfl rfl (Ek v) szV SS rfl ?_;clear SS;intro X4 SS;simp only[nn])|(refine rd rfl (Ad 3 isAgg3 rfl rfl ((Aa SS).hold 0 rfl) rfl) ?_;simp only[nn])|(refine rd rfl (Kg rfl rfl rfl hk) ?_;simp only[nn])))
    replace SS:=Ab (Sy.left (L:= []) (M:= [_]) (Aa SS))
    go_wp2
    go_roundg (vs.length - (i+1))
    case measure=>have:=Aa HLT;omega
    case rel=>exact⟨i+1,by go_num,by have:=Aa HLT;omega,by omega,HD2,SS⟩
  ·obtain rfl:i=vs.length:=by omega
   have HTA:Hid (vs.all (Vz)=true):=Ab (Vw (fun j v hj hv=>Aa HD j v hj hv))
   clear hlt hil HD
   go_wp2_with (go_skip)
   go_ret
   exact⟨by unfold Gg;rw[Aa HTA];rfl,(Aa SS).fr.below⟩
def Bl (k:KK):Int:=if goodK k then 0 else 5
theorem Pk (k:KK) (w:World) (hT:Lib.Utf8Tabs 1 2 w):Calls prog 30 #[k.agg] w fun e w'=>e= .returned (.int .i64 (Bl k))/\Below w.heap.size w w':=Yv k.s k.n w hT
theorem Ew {w:World} {B:Nat} {l:List VV} (h:Holds w B (l.flatMap VV.cs)):Gt w (some ⟨B,0,none⟩) l:=fun j v hj=>by
 have hlt:=(List.getElem?_eq_some_iff.1 hj).1
 have hv:=(List.getElem?_eq_some_iff.1 hj).2
 have hlen:(l.flatMap VV.cs).length=l.length * 5:=Gb VV.cs 5 (fun _=>rfl) l
 refine⟨B,0,rfl,h.lt (by omega),fun t u hu=> ?_⟩
 have ht:t<5:=by have:=(List.getElem?_eq_some_iff.1 hu).1;simpa [VV.cs] using this
 have h2:=Po VV.cs 5 (fun _=>rfl) l j t hlt ht
 rw[hv,hu] at h2
 have:=h.cell (j * 5+t) h2
 rw[Nat.zero_add]
 exact this
section
variable {md : Region.Mode} {ops : Array Oper} {Q : Exit → Act → World → Prop} {S : World → Prop} {w w0 : World} {fuel : Nat} {listed : Array Bool} {a : Act} {o : Oper} {E : List Nat} {L : List Ob}
theorem Bi {cs:List Value} {t n:Nat} (i:Nat) (dst:Option Tmp) {rs:List Nat} (hi:ops[i]? =some o) (hd:o.dst=dst) (hw:Region.wanted o (yielded ops a.tmps)=true) (he:(execOp a.eval o).run prog w= .ok (.value (.slice (some ⟨w.heap.size,0,none⟩) n n)) (w.alloc (Obj.cells cs.toArray t))) (hc:0<cs.length) (hL:Sy w0 w E L)
  (hS: ∀X,Sy w0 X E (L++ [Aq w.heap.size cs])->S X) (h: ∀X B,B=w.heap.size->Sy w0 X E (L++ [Aq B cs])->wpAnyH prog md ops Q S fuel (listed.setIfInBounds i true) (a.put dst (.slice (some ⟨B,0,none⟩) n n)) X) (hs:AllReadyH prog md ops Q S fuel listed a w rs):AllReadyH prog md ops Q S fuel listed a w (i::rs):=by
 have hb:=hL.box cs t hc
 exact Zdd i dst hi hd hw he (hS _ hb) (h _ _ rfl hb) hs
end
theorem Dl {o:Oper} {a:Act} {w:World} {x0:Operand} {v0:VV} (ho:o.op= .buildSlice 41 1 #[(0,x0)]) (h0:a.eval x0= .agg v0.cs.toArray):(execOp a.eval o).run prog w= .ok (.value (.slice (some ⟨w.heap.size,0,none⟩) 1 1)) (w.alloc (Obj.cells ([v0].flatMap VV.cs).toArray 36)):=by
 have e:(Instr.buildSlice 41 1 #[(0, .agg v0.cs.toArray)]).run prog w= .ok (.slice (some ⟨w.heap.size,0,none⟩) 1 1) (w.alloc (Obj.cells ([v0].flatMap VV.cs).toArray 36)):=by kernel_rfl
 unfold execOp
 simp only[ho,List.map_toArray,List.map_cons,List.map_nil,h0]
 simp[e]
theorem Df {o:Oper} {a:Act} {w:World} {x0 x1:Operand} {v0 v1:VV} (ho:o.op= .buildSlice 41 2 #[(0,x0),(1,x1)]) (h0:a.eval x0= .agg v0.cs.toArray) (h1:a.eval x1= .agg v1.cs.toArray):(execOp a.eval o).run prog w= .ok (.value (.slice (some ⟨w.heap.size,0,none⟩) 2 2)) (w.alloc (Obj.cells ([v0,v1].flatMap VV.cs).toArray 36)):=by
 have e:(Instr.buildSlice 41 2 #[(0, .agg v0.cs.toArray),(1, .agg v1.cs.toArray)]).run prog w= .ok (.slice (some ⟨w.heap.size,0,none⟩) 2 2) (w.alloc (Obj.cells ([v0,v1].flatMap VV.cs).toArray 36)):=by kernel_rfl
 unfold execOp
 simp only[ho,List.map_toArray,List.map_cons,List.map_nil,h0,h1]
 simp[e]
theorem Jf {o:Oper} {a:Act} {w:World} {x0 x1 x2:Operand} {v0 v1 v2:VV} (ho:o.op= .buildSlice 41 3 #[(0,x0),(1,x1),(2,x2)]) (h0:a.eval x0= .agg v0.cs.toArray) (h1:a.eval x1= .agg v1.cs.toArray) (h2:a.eval x2= .agg v2.cs.toArray):(execOp a.eval o).run prog w= .ok (.value (.slice (some ⟨w.heap.size,0,none⟩) 3 3)) (w.alloc (Obj.cells ([v0,v1,v2].flatMap VV.cs).toArray 36)):=by
 have e:(Instr.buildSlice 41 3 #[(0, .agg v0.cs.toArray),(1, .agg v1.cs.toArray),(2, .agg v2.cs.toArray)]).run prog w= .ok (.slice (some ⟨w.heap.size,0,none⟩) 3 3) (w.alloc (Obj.cells ([v0,v1,v2].flatMap VV.cs).toArray 36)):=by kernel_rfl
 unfold execOp
 simp only[ho,List.map_toArray,List.map_cons,List.map_nil,h0,h1,h2]
 simp[e]
theorem Up {o:Oper} {a:Act} {w:World} {x0 x1:Operand} {e0 e1:Int} (ho:o.op= .buildSlice 110 2 #[(0,x0),(1,x1)]) (h0:a.eval x0= .int .i64 e0) (h1:a.eval x1= .int .i64 e1):(execOp a.eval o).run prog w= .ok (.value (.slice (some ⟨w.heap.size,0,none⟩) 2 2)) (w.alloc (Obj.cells (Ns [e0,e1]).toArray 28)):=by
 have e:(Instr.buildSlice 110 2 #[(0, .int .i64 e0),(1, .int .i64 e1)]).run prog w= .ok (.slice (some ⟨w.heap.size,0,none⟩) 2 2) (w.alloc (Obj.cells (Ns [e0,e1]).toArray 28)):=by kernel_rfl
 unfold execOp
 simp only[ho,List.map_toArray,List.map_cons,List.map_nil,h0,h1]
 simp[e]
theorem Zd7 {o:Oper} {a:Act} {w:World} {x0 x1 x2:Operand} {e0 e1 e2:Int} (ho:o.op= .buildSlice 110 3 #[(0,x0),(1,x1),(2,x2)]) (h0:a.eval x0= .int .i64 e0) (h1:a.eval x1= .int .i64 e1) (h2:a.eval x2= .int .i64 e2):(execOp a.eval o).run prog w= .ok (.value (.slice (some ⟨w.heap.size,0,none⟩) 3 3)) (w.alloc (Obj.cells (Ns [e0,e1,e2]).toArray 28)):=by
 have e:(Instr.buildSlice 110 3 #[(0, .int .i64 e0),(1, .int .i64 e1),(2, .int .i64 e2)]).run prog w= .ok (.slice (some ⟨w.heap.size,0,none⟩) 3 3) (w.alloc (Obj.cells (Ns [e0,e1,e2]).toArray 28)):=by kernel_rfl
 unfold execOp
 simp only[ho,List.map_toArray,List.map_cons,List.map_nil,h0,h1,h2]
 simp[e]
theorem Dh {o:Oper} {a:Act} {w:World} {x0 x1 x2 x3:Operand} {e0 e1 e2 e3:Int} (ho:o.op= .buildSlice 110 4 #[(0,x0),(1,x1),(2,x2),(3,x3)]) (h0:a.eval x0= .int .i64 e0) (h1:a.eval x1= .int .i64 e1) (h2:a.eval x2= .int .i64 e2) (h3:a.eval x3= .int .i64 e3):(execOp a.eval o).run prog w= .ok (.value (.slice (some ⟨w.heap.size,0,none⟩) 4 4)) (w.alloc (Obj.cells (Ns [e0,e1,e2,e3]).toArray 28)):=by
 have e:(Instr.buildSlice 110 4 #[(0, .int .i64 e0),(1, .int .i64 e1),(2, .int .i64 e2),(3, .int .i64 e3)]).run prog w= .ok (.slice (some ⟨w.heap.size,0,none⟩) 4 4) (w.alloc (Obj.cells (Ns [e0,e1,e2,e3]).toArray 28)):=by kernel_rfl
 unfold execOp
 simp only[ho,List.map_toArray,List.map_cons,List.map_nil,h0,h1,h2,h3]
 simp[e]
theorem Ed {o:Oper} {a:Act} {w:World} {x0 x1 x2 x3 x4:Operand} {e0 e1 e2 e3 e4:Int} (ho:o.op= .buildSlice 110 5 #[(0,x0),(1,x1),(2,x2),(3,x3),(4,x4)]) (h0:a.eval x0= .int .i64 e0) (h1:a.eval x1= .int .i64 e1) (h2:a.eval x2= .int .i64 e2) (h3:a.eval x3= .int .i64 e3) (h4:a.eval x4= .int .i64 e4):(execOp a.eval o).run prog w= .ok (.value (.slice (some ⟨w.heap.size,0,none⟩) 5 5)) (w.alloc (Obj.cells (Ns [e0,e1,e2,e3,e4]).toArray 28)):=by
 have e:(Instr.buildSlice 110 5 #[(0, .int .i64 e0),(1, .int .i64 e1),(2, .int .i64 e2),(3, .int .i64 e3),(4, .int .i64 e4)]).run prog w= .ok (.slice (some ⟨w.heap.size,0,none⟩) 5 5) (w.alloc (Obj.cells (Ns [e0,e1,e2,e3,e4]).toArray 28)):=by kernel_rfl
 unfold execOp
 simp only[ho,List.map_toArray,List.map_cons,List.map_nil,h0,h1,h2,h3,h4]
 simp[e]
def Da (v:VV):Int:=if v.k=2∨v.k=7 then 0 else 5
theorem Ej (v:VV) (w:World):Calls prog 48 #[v.agg] w fun e w'=>e= .returned (.int .i64 (Da v))/\Below w.heap.size w w':=by
 unfold Da
 by_cases h2:v.k=2
 ·rw[if_pos (Or.inl h2)]
  have SS:=Ab (Sy.nil w [])
  rw[By]
  go_enter func48,ntmps48
  go_wp2_with (first|go_skip|((with_reducible show wpList ..);first|(refine zB 36 (v.cs) (by rfl) rfl rfl rfl SS ?_;clear SS;intro X1 B1 SS;simp only[nn])|(refine rd rfl (Ad 3 isAgg3 rfl rfl ((Aa SS).hold 0 rfl) rfl) ?_;simp only[nn])|(refine rd rfl (Ef rfl rfl rfl h2) ?_;simp only[nn])))
  go_ret
  exact⟨rfl,(Aa SS).fr.below⟩
 ·by_cases h7:v.k=7
  ·rw[if_pos (Or.inr h7)]
   have SS:=Ab (Sy.nil w [])
   rw[By]
   go_enter func48,ntmps48
   go_wp2_with (first|go_skip|((with_reducible show wpList ..);first|(refine zB 36 (v.cs) (by rfl) rfl rfl rfl SS ?_;clear SS;intro X1 B1 SS;simp only[nn])|(refine rd rfl (Ad 3 isAgg3 rfl rfl ((Aa SS).hold 0 rfl) rfl) ?_;simp only[nn])|(refine rd rfl (Kc rfl rfl rfl h2) ?_;simp only[nn])|(refine rd rfl (Ef rfl rfl rfl h7) ?_;simp only[nn])))
   go_ret
   exact⟨rfl,(Aa SS).fr.below⟩
  ·rw[if_neg (by simp[h2,h7])]
   have SS:=Ab (Sy.nil w [])
   rw[By]
   go_enter func48,ntmps48
   go_wp2_with (first|go_skip|((with_reducible show wpList ..);first|(refine zB 36 (v.cs) (by rfl) rfl rfl rfl SS ?_;clear SS;intro X1 B1 SS;simp only[nn])|(refine rd rfl (Ad 3 isAgg3 rfl rfl ((Aa SS).hold 0 rfl) rfl) ?_;simp only[nn])|(refine rd rfl (Kc rfl rfl rfl h2) ?_;simp only[nn])|(refine rd rfl (Kc rfl rfl rfl h7) ?_;simp only[nn])))
   go_ret
   exact⟨rfl,(Aa SS).fr.below⟩
end
section
open Go Go.Proofs Go.Maps Go.RowKit FM
attribute [local go_sem] Ao Am Au Ah Ap Ai Ax Dn Dm Bq Aj Bp
def PostN (R:Act->World->Prop) (e:Exit) (a:Act) (X:World):Prop:=match e with| .normal=>R a X|_=>False
theorem pN {R:Act->World->Prop} {a:Act} {X:World} (h:R a X):PostN R .normal a X:=h
theorem Js {P:Program} {id:Nat} {ops:Array Oper} {Q:Exit->Act->World->Prop} {a:Act} {w:World} (R:Act->Act->World->Prop) (h1:(Code.region id ops true).wp P (PostN (R a)) a w) (h2: ∀a' X,R a a' X->Q .normal a' X):(Code.region id ops true).wp P Q a w:=Code.wp_mono (fun e a' X h=>by cases e<;>first|exact h2 a' X h|exact h.elim) h1
theorem Ep {l:List Int} (h:orE l=0): ∀e∈l,e=0:=by
 induction l with
 |nil=>intro e he;cases he
 |cons a l ih=>
  unfold orE at h
  split at h
  ·rename_i h0
   intro e he
   rcases List.mem_cons.1 he with rfl|he
   ·exact h0
   ·exact ih h e he
  ·rename_i h0
   exact absurd h h0
theorem Kl {o:Int} {h:HP} (he:thE o h.l.length=0): ∃(j:Nat) (q:OB),o=(j:Int)+1/\h.l[j]? =some q:=by
 unfold thE at he
 split at he
 ·rename_i h1
  exact Nt h1
 ·cases he
theorem Qv {n:Nat} {l:List VV} (h:Aw n l=0): ∀v∈l,v.k=7->1<=v.i/\v.i<=(n:Int):=by
 unfold Aw at h
 split at h
 ·rename_i h1
  intro v hv hk
  have:=List.all_eq_true.1 h1 v hv
  unfold Mi Qx at this
  simp[hk] at this
  exact this
 ·cases h
theorem ZcP {l:List VV} (h:Bh l=0): ∀v∈l,v.good=true:=by
 unfold Bh at h
 split at h
 ·rename_i h1
  exact fun v hv=>List.all_eq_true.1 h1 v hv
 ·cases h
theorem Ve {k:KK} (h:Bl k=0):goodK k=true:=by
 unfold Bl at h
 split at h
 ·assumption
 ·cases h
theorem ZcX {v:VV} (h:Da v=0):v.k=2∨v.k=7:=by
 unfold Da at h
 split at h
 ·assumption
 ·cases h
