import Derived.Test.YthcmamjpfigdfaaGreatDoorRi
import Derived.Test.YthcmamjpfigdfaaGreatDoorRh
set_option linter.all false
namespace Go.Proofs.YthcmamjpfigdfaaGreatDoor
set_option maxRecDepth 100000
set_option maxHeartbeats 0
section
open Go Go.Proofs Go.Maps Go.RowKit FM Tryz
attribute [local go_sem] Al Ak Ar Ah Am Ai Au Dd Db Bi Aj Bh
def SpP (h:HP) (j:Nat) (q:OB) (v:VV) (h1:HP) (y:Bool):Prop:=h1=h∨(y=true/\h1=h.prot j q v/\q.x=true/\ ∀i:Nat,v.k=7->v.i=(i:Int)+1-> ¬Rch h j i)
theorem ZcB {o:Oper} {a:Act} {w:World} {x y:Operand} {p q:VV} {r:Bool} (ho:o.op= .binOp .eql 40 x y 40) (hx:a.eval x= .agg p.cs.toArray) (hc:a.eval y= .agg q.cs.toArray) (h:veqV p q=r):(execOp a.eval o).run prog w= .ok (.value (.bool r)) w:=h▸ex_eqV ho hx hc
theorem cput_p (q:OB) (v:VV):Bt q.cs 1 v.cs=({q with p:=v}:OB).cs:=by simp[Bt,OB.cs,VV.cs]
theorem Zcg (h:HP) (j:Nat) (q:OB) (v:VV) (w:World) (H:h.Is w) (K:h.Wf) (A:h.Ac) (hj:h.l[j]? =some q) (hv:v.k=7->1<=v.i/\v.i<=(h.l.length:Int)):Calls prog 209 #[.agg #[], .pointer (some ⟨h.b,0,none⟩), .int .i64 ((j:Int)+1),v.agg] w fun e w'=> ∃(h1:HP) (y:Bool),e= .returned (.tuple #[.bool y, .nilIface])/\SpP h j q v h1 y/\h.To h1 w w':=by
 obtain⟨z,hve⟩: ∃z,veqV v q.p=z:=⟨_,rfl⟩
 cases z
 ·obtain⟨x,hx⟩: ∃x,q.x=x:=⟨_,rfl⟩
  cases x
  ·have SS:=Ab H.start
   rw[Dg]
   go_enter func209,ntmps209
   go_wp2_with (first|go_skip|((with_reducible show wpList ..);first|((refine bx0 109 rfl rfl (Aa SS) ?_);intro X0 B0 S0;replace SS:=Ab S0;clear S0;simp only[nn])|(refine zB 40 (v.cs) rfl rfl rfl SS ?_;clear SS;intro Xa Ba SS;simp only[nn])))
   refine(Kv h j q _ ((Aa SS).hp 0 rfl) hj K.ok.len).mono ?_
   rintro _ _ ⟨rfl,rfl⟩
   go_wp2
   have hS:Sy w _ h.blocks [hpO h,Av Ba v.cs]:=(Aa SS).drew
   clear SS
   refine wp_region_held_drew (P:=prog) (S:=fun X=>Sy w X h.blocks _) (by kernel_rfl) (hS) (fun hS0=> ?_)
   refine gq 0 (some 14) (.agg v.cs.toArray) rfl rfl (fun X hX=>Af (vs:=v.cs) 40 5 rwV szV rfl rfl (hX.hold 1 rfl) rfl rfl) (hS) ?_
   refine gp 1 (some 15) (.pointer (some ⟨q.b,0,none⟩)) rfl rfl (hS) ?_
   refine gp 2 (some 16) (.pointer (some ⟨q.b,0,none⟩)) rfl rfl (hS) ?_
   refine gp 3 (some 17) (.pointer (some ⟨q.b,1,none⟩)) rfl rfl (hS) ?_
   refine gq 4 (some 18) (.agg q.p.cs.toArray) rfl rfl (fun X hX=>Af (vs:=q.p.cs) 40 5 rwV szV rfl rfl ((hX.hp 0 rfl).ob hj).1 rfl rfl) (hS) ?_
   refine gq 5 (some 19) (.bool false) rfl rfl (fun X hX=>ZcB rfl rfl rfl hve) (hS) ?_
   refine dn ?_
   try simp only[nn]
   have SS:=Ab hS
   have HO:=Ab (((Aa SS).hp 0 rfl).ob hj).1
   skip
   go_wp2_with (first|go_skip|((with_reducible show wpList ..);(refine rd rfl (Ad (v:= .bool false) 4 isAgg4 rfl rfl (Aa HO) (by simp[OB.cs,VV.cs,hx])) ?_)))
   go_ret2
   exact⟨h,false,rfl, .inl rfl,HP.To.end H (Aa SS) rfl⟩
  ·have SS:=Ab H.start
   rw[Dg]
   go_enter func209,ntmps209
   go_wp2_with (first|go_skip|((with_reducible show wpList ..);first|((refine bx0 109 rfl rfl (Aa SS) ?_);intro X0 B0 S0;replace SS:=Ab S0;clear S0;simp only[nn])|(refine zB 40 (v.cs) rfl rfl rfl SS ?_;clear SS;intro Xa Ba SS;simp only[nn])))
   refine(Kv h j q _ ((Aa SS).hp 0 rfl) hj K.ok.len).mono ?_
   rintro _ _ ⟨rfl,rfl⟩
   go_wp2
   have hS:Sy w _ h.blocks [hpO h,Av Ba v.cs]:=(Aa SS).drew
   clear SS
   refine wp_region_held_drew (P:=prog) (S:=fun X=>Sy w X h.blocks _) (by kernel_rfl) (hS) (fun hS0=> ?_)
   refine gq 0 (some 14) (.agg v.cs.toArray) rfl rfl (fun X hX=>Af (vs:=v.cs) 40 5 rwV szV rfl rfl (hX.hold 1 rfl) rfl rfl) (hS) ?_
   refine gp 1 (some 15) (.pointer (some ⟨q.b,0,none⟩)) rfl rfl (hS) ?_
   refine gp 2 (some 16) (.pointer (some ⟨q.b,0,none⟩)) rfl rfl (hS) ?_
   refine gp 3 (some 17) (.pointer (some ⟨q.b,1,none⟩)) rfl rfl (hS) ?_
   refine gq 4 (some 18) (.agg q.p.cs.toArray) rfl rfl (fun X hX=>Af (vs:=q.p.cs) 40 5 rwV szV rfl rfl ((hX.hp 0 rfl).ob hj).1 rfl rfl) (hS) ?_
   refine gq 5 (some 19) (.bool false) rfl rfl (fun X hX=>ZcB rfl rfl rfl hve) (hS) ?_
   refine dn ?_
   try simp only[nn]
   have SS:=Ab hS
   have HO:=Ab (((Aa SS).hp 0 rfl).ob hj).1
   go_wp2_with (first|go_skip|((with_reducible show wpList ..);first|(refine rd rfl (Ad (v:= .bool true) 4 isAgg4 rfl rfl (Aa HO) (by simp[OB.cs,VV.cs,hx])) ?_)|(refine zL (v.cs) 40 5 1 rwV szV rfl rfl SS rfl rfl rfl ?_;simp only[nn])))
   have HC:=leads_h h v j _ ((Aa SS).hp 0 rfl) K A hv
   rw[Dg] at HC
   refine HC.mono ?_
   rintro _ Y ⟨b,rfl,hb,hR⟩
   replace SS:=Ab ((Aa SS).on hb)
   clear hb HC
   cases b
   ·have HR:=Ab (hR rfl)
    clear hR
    go_wp2_with (first|go_skip|((with_reducible show wpList ..);first|(refine zL (v.cs) 40 5 1 rwV szV rfl rfl SS rfl rfl rfl ?_;simp only[nn])|((refine stO (p:=1) (vs:=v.cs) (h.prot j q v) (j:=j) (q:=q) (q':={q with p:=v}) 0 40 rfl rfl rfl rfl (Gh _) szV (Aa SS) rfl hj (by simp[VV.cs]) rfl rfl rfl rfl rfl (cput_p q v) ?_);intro X1 S1;replace SS:=Ab S1;clear S1;simp only[nn])))
    go_ret2
    exact⟨h.prot j q v,true,rfl, .inr ⟨rfl,rfl,hx,Aa HR⟩,HP.To.end H (Aa SS) rfl⟩
   ·go_wp2
    go_ret2
    exact⟨h,false,rfl, .inl rfl,HP.To.end H (Aa SS) rfl⟩
 ·have SS:=Ab H.start
  rw[Dg]
  go_enter func209,ntmps209
  go_wp2_with (first|go_skip|((with_reducible show wpList ..);first|((refine bx0 109 rfl rfl (Aa SS) ?_);intro X0 B0 S0;replace SS:=Ab S0;clear S0;simp only[nn])|(refine zB 40 (v.cs) rfl rfl rfl SS ?_;clear SS;intro Xa Ba SS;simp only[nn])))
  refine(Kv h j q _ ((Aa SS).hp 0 rfl) hj K.ok.len).mono ?_
  rintro _ _ ⟨rfl,rfl⟩
  go_wp2
  have hS:Sy w _ h.blocks [hpO h,Av Ba v.cs]:=(Aa SS).drew
  clear SS
  refine wp_region_held_drew (P:=prog) (S:=fun X=>Sy w X h.blocks _) (by kernel_rfl) (hS) (fun hS0=> ?_)
  refine gq 0 (some 14) (.agg v.cs.toArray) rfl rfl (fun X hX=>Af (vs:=v.cs) 40 5 rwV szV rfl rfl (hX.hold 1 rfl) rfl rfl) (hS) ?_
  refine gp 1 (some 15) (.pointer (some ⟨q.b,0,none⟩)) rfl rfl (hS) ?_
  refine gp 2 (some 16) (.pointer (some ⟨q.b,0,none⟩)) rfl rfl (hS) ?_
  refine gp 3 (some 17) (.pointer (some ⟨q.b,1,none⟩)) rfl rfl (hS) ?_
  refine gq 4 (some 18) (.agg q.p.cs.toArray) rfl rfl (fun X hX=>Af (vs:=q.p.cs) 40 5 rwV szV rfl rfl ((hX.hp 0 rfl).ob hj).1 rfl rfl) (hS) ?_
  refine gq 5 (some 19) (.bool true) rfl rfl (fun X hX=>ZcB rfl rfl rfl hve) (hS) ?_
  refine dn ?_
  try simp only[nn]
  have SS:=Ab hS
  go_wp2
  go_ret2
  exact⟨h,true,rfl, .inl rfl,HP.To.end H (Aa SS) rfl⟩
end
section
open Go Go.Proofs Go.Maps Go.RowKit FM
structure HP.Gd (h:HP) (N:Nat):Prop where
 wf:h.Wf
 ac:h.Ac
 few:h.Few N
 cap:h.cap<=65536
 room:(h.l.length:Int)<=h.cap
theorem Zfa {v a:VV} (h1:v.k≠7) (h2:a.k≠7):(orV v a).k≠7:=by
 unfold orV
 split<;>assumption
theorem und_k:Dk.k≠7:=by decide
theorem Nd:Aq.k≠7:=by decide
theorem fill_k {d:DD} (hg:d.g.k≠7) (hs:d.s.k≠7):(Jy d).g.k≠7/\(Jy d).s.k≠7:=by
 unfold Jy
 split
 ·exact⟨Zfa hg und_k,Zfa hs und_k⟩
 ·exact⟨hg,hs⟩
theorem app_k (x:Bool) {n d:DD} (hn:n.g.k≠7/\n.s.k≠7) (hg:d.g.k≠7) (hs:d.s.k≠7):(Ej x n d).g.k≠7/\(Ej x n d).s.k≠7:=by
 unfold Ej
 split
 ·exact⟨Nd,Nd⟩
 split
 ·split
  ·exact fill_k hg hs
  ·exact⟨Nd,Nd⟩
 split
 ·exact hn
 unfold Ke
 split
 ·exact fill_k hg hs
 ·exact⟨Zfa hg hn.1,Zfa hs hn.2⟩
theorem OkD_app {x:Bool} {n d:DD} (hF:FD n) (hk:n.g.k≠7/\n.s.k≠7) (hd:FD d) (hg:d.g.k≠7) (hs:d.s.k≠7) (hb:Pi x n d=true):OkD (Ej x n d):=
 ⟨fd_app x hF hd,(Za8 hb).2.1.whole,app_k x hk hg hs⟩
theorem get_k {h:HP} (K:h.Wf) {j:Nat} {q:OB} (hj:h.l[j]? =some q) (k:KK):(getD q.T k).g.k≠7/\(getD q.T k).s.k≠7:=by
 cases hf:q.T.find k with
 |none=>
  unfold getD
  rw[hf]
  exact⟨Nd,Nd⟩
 |some r=>exact(Zcu K hj hf).2.2
theorem put_mem {l:List (KK×DD)} {k:KK} {d:DD} {e:KK×DD} (h:e∈Oj l k d):e.2=d∨e∈l:=by
 unfold Oj at h
 split at h
 ·obtain⟨x,hx,rfl⟩:=List.mem_map.1 h
  split
  ·exact .inl rfl
  ·exact .inr hx
 ·rcases List.mem_append.1 h with h|h
  ·exact .inr h
  ·rw[List.mem_singleton.1 h]
   exact .inl rfl
theorem ZeP {h:HP} {j i:Nat} {q' r:OB} (hi:(h.l.set j q')[i]? =some r):(i=j/\r=q')∨(i≠j/\h.l[i]? =some r):=by
 by_cases e:j=i
 ·subst e
  have hlt:j<h.l.length:=by have:=(List.getElem?_eq_some_iff.1 hi).1;simpa using this
  rw[List.getElem?_set_self hlt] at hi
  exact .inl ⟨rfl,(Option.some.inj hi).symm⟩
 ·rw[List.getElem?_set_ne e] at hi
  exact .inr ⟨fun e2=>e e2.symm,hi⟩
theorem Zej {h:HP} {N M:Nat} (G:h.Gd N) {j:Nat} {q q':OB} (hj:h.l[j]? =some q) (hw:OB.Wf h.l.length q') (hl:q'.T.last<=M) (hM:N<=M) (hA:({h with l:=h.l.set j q'}:HP).Ac):({h with l:=h.l.set j q'}:HP).Gd M:=by
 have hlen:(h.l.set j q').length=h.l.length:=List.length_set
 refine⟨⟨⟨by show (h.l.set j q').length<=_;rw[hlen];exact G.wf.ok.len,G.wf.ok.f0,G.wf.ok.f1,G.wf.ok.e0,G.wf.ok.e1,G.wf.ok.d1⟩,fun i r hi=> ?_⟩,hA,fun i r hi=> ?_,G.cap,by show ((h.l.set j q').length:Int)<=_;rw[hlen];exact G.room⟩
 ·show OB.Wf (h.l.set j q').length r
  rw[hlen]
  rcases ZeP (h:=h) hi with ⟨-,rfl⟩|⟨-,hi⟩
  ·exact hw
  ·exact G.wf.ob i r hi
 ·rcases ZeP (h:=h) hi with ⟨-,rfl⟩|⟨-,hi⟩
  ·exact hl
  ·exact Nat.le_trans (G.few i r hi) hM
theorem Zfk {h:HP} (A:h.Ac) {j:Nat} {q q':OB} (hj:h.l[j]? =some q) (hp:q'.p=q.p):({h with l:=h.l.set j q'}:HP).Ac:=A.same (fun i r hi=>by
 rcases ZeP (h:=h) hi with ⟨rfl,rfl⟩|⟨-,hi⟩
 ·exact⟨q,hj,hp.symm⟩
 ·exact⟨r,hi,rfl⟩)
theorem tab_gd {h:HP} {N M:Nat} (G:h.Gd N) {j:Nat} {q:OB} (hj:h.l[j]? =some q) {T':TT} (hp: ∀e∈pr T',OkD e.2) (hl:T'.last<=M) (hM:N<=M):(h.tab j q T').Gd M:=by
 have K:=G.wf.ob j q hj
 exact Zej G hj (q':={q with T:=T'}) ⟨K.c,K.px,K.pk,K.pi,hp⟩ hl hM (Zfk G.ac hj rfl)
theorem shut_gd {h:HP} {N:Nat} (G:h.Gd N) {j:Nat} {q:OB} (hj:h.l[j]? =some q):(h.shut j q).Gd N:=by
 have K:=G.wf.ob j q hj
 exact Zej G hj (q':={q with x:=false}) ⟨K.c,K.px,K.pk,K.pi,K.ps⟩ (G.few j q hj) (Nat.le_refl _) (Zfk G.ac hj rfl)
theorem prot_gd {h:HP} {N:Nat} (G:h.Gd N) {j:Nat} {q:OB} (hj:h.l[j]? =some q) {v:VV} (hx:v.x<2^64) (hk:v.k=2∨v.k=7) (hi:v.k=7->1<=v.i/\v.i<=(h.l.length:Int)) (hR: ∀i:Nat,v.k=7->v.i=(i:Int)+1-> ¬Rch h j i):(h.prot j q v).Gd N:=by
 have K:=G.wf.ob j q hj
 exact Zej G hj (q':={q with p:=v}) ⟨K.c,hx,hk,hi,K.ps⟩ (G.few j q hj) (Nat.le_refl _) (G.ac.prot hj v hR)
theorem HP.Gd.mono {h:HP} {N M:Nat} (G:h.Gd N) (hM:N<=M):h.Gd M:=⟨G.wf,G.ac,fun j q hj=>Nat.le_trans (G.few j q hj) hM,G.cap,G.room⟩
theorem Pw {h h1:HP} {N:Nat} (G:h.Gd N) (L:Low h h1):h1.Gd N:=⟨L.wf G.wf,G.ac.low L,L.few G.few,by rw[L.eq];exact G.cap,by rw[L.eq];exact G.room⟩
structure Stp (h h1:HP):Prop where
 len:h1.l.length=h.l.length
 cap:h1.cap=h.cap
 depth:h1.depth=h.depth
 ent:h1.ent=h.ent
 lt:WhH h->WhH h1/\LtH h.abs h1.abs
def LtB (h h1:HP):Prop:=WhH h->WhH h1/\LtH h.abs h1.abs
theorem LtB.refl (h:HP):LtB h h:=fun hw=>⟨hw,LtH.refl hw⟩
theorem Stp.refl (h:HP):Stp h h:=⟨rfl,rfl,rfl,rfl,fun hw=>⟨hw,LtH.refl hw⟩⟩
theorem Low.stp {h h1:HP} (L:Low h h1):Stp h h1:=by
 rw[L.eq]
 exact⟨rfl,rfl,rfl,rfl,fun hw=>⟨hw,LtH.refl hw⟩⟩
theorem ZeX {h:HP} {j:Nat} {q:OB} (hj:h.l[j]? =some q) (T':TT) (hk:WhO h.l.length q.po->WhO h.l.length ({q with T:=T'}:OB).po/\LtO q.po ({q with T:=T'}:OB).po):Stp h (h.tab j q T'):=⟨List.length_set,rfl,rfl,rfl,ZdZ hj hk⟩
theorem def_lt {n:Nat} {q:OB} {k:KK} {d:DD} {T':TT} (hgk:goodK k=true) (hv:Ov n d.v) (hb:Pi q.x (getD q.T k) d=true) (hp:pr T'=Oj (pr q.T) k (Ej q.x (getD q.T k) d)) (hw:WhO n q.po):WhO n ({q with T:=T'}:OB).po/\LtO q.po ({q with T:=T'}:OB).po:=by
 rw[pr_get] at hb hp
 have h1:=lt_def (a:=q.po) hw.2 (k:=k) (d:=d) hgk hv hb
 show (q.p.good=true/\WhP n (pr T'))/\LtO q.po ⟨q.c,q.p,q.x,pr T'⟩
 rw[hp]
 exact⟨⟨hw.1,h1.1⟩,h1.2⟩
theorem del_lt {n:Nat} {q:OB} {k:KK} {T':TT} (hc:(getD q.T k).c≠1) (hp:pr T'=Un (pr q.T) k) (hw:WhO n q.po):WhO n ({q with T:=T'}:OB).po/\LtO q.po ({q with T:=T'}:OB).po:=by
 rw[pr_get] at hc
 have h1:=lt_del (a:=q.po) hw.2 (k:=k) hc
 show (q.p.good=true/\WhP n (pr T'))/\LtO q.po ⟨q.c,q.p,q.x,pr T'⟩
 rw[hp]
 exact⟨⟨hw.1,h1.1⟩,h1.2⟩
theorem Stp.trans {h h1 h2:HP} (A:Stp h h1) (B:Stp h1 h2):Stp h h2:=⟨B.len.trans A.len,B.cap.trans A.cap,B.depth.trans A.depth,B.ent.trans A.ent,fun hw=>⟨(B.lt (A.lt hw).1).1,(A.lt hw).2.trans (B.lt (A.lt hw).1).2⟩⟩
theorem DefE.gd {h:HP} {N:Nat} {j:Nat} {q:OB} {k:KK} {d:DD} {h1:HP} {y:Bool} {er:Value} (G:h.Gd N) (hj:h.l[j]? =some q) (hd:FD d) (hg:d.g.k≠7) (hs:d.s.k≠7) (hgk:goodK k=true) (hv:Ov h.l.length d.v) (D:DefE h j q k d h1 y er):h1.Gd (N+1)/\Stp h h1:=by
 rcases D with ⟨-,L, -⟩|⟨-, -,hb,T',L,hl,hp⟩
 ·exact⟨(Pw G L).mono (Nat.le_succ _),L.stp⟩
 ·have hO:=OkD_app (get_FD G.wf hj k) (get_k G.wf hj k) hd hg hs hb
  have h2:(h.tab j q T').Gd (N+1):=tab_gd G hj (fun e he=>by
   rw[hp] at he
   rcases put_mem he with h3|h3
   ·rw[h3];exact hO
   ·exact(G.wf.ob j q hj).ps e h3) (by have:=G.few j q hj;omega) (Nat.le_succ _)
  exact⟨Pw h2 L,(ZeX hj T' (def_lt hgk hv hb hp)).trans L.stp⟩
theorem WriP.gd {h:HP} {N:Nat} {j:Nat} {q:OB} {k:KK} {v:VV} {h1:HP} {y:Bool} {er:Value} (G:h.Gd N) (hj:h.l[j]? =some q) (hv:v.x<2^64) (hgk:goodK k=true) (hov:Ov h.l.length v) (D:WriP h j q k v h1 y er):h1.Gd (N+1)/\Stp h h1:=by
 rcases D with ⟨-,L, -⟩|⟨-, -,d,T',hd,hb,L,hl,hp⟩
 ·exact⟨(Pw G L).mono (Nat.le_succ _),L.stp⟩
 ·have hF:FD d/\d.g.k≠7/\d.s.k≠7/\Ov h.l.length d.v:=by
   rcases hd with ⟨rfl, -⟩|⟨rfl, -⟩
   ·exact⟨ZfG hv,Nd,Nd,hov⟩
   ·exact⟨FD_val hv,Nd,Nd,hov⟩
  exact DefE.gd (er:= .nilIface) (y:=true) G hj hF.1 hF.2.1 hF.2.2.1 hgk hF.2.2.2 (.inr ⟨rfl,rfl,hb,T',L,hl,hp⟩)
theorem SetP.gd {h:HP} {N:Nat} {k:KK} {r v:VV} {h1:HP} {y:Bool} {er:Value} (G:h.Gd N) (hv:v.x<2^64) (hgk:goodK k=true) (hov:Ov h.l.length v) (D:SetP h r k v h1 y er):h1.Gd (N+1)/\Stp h h1:=by
 rcases D with ⟨-,L, -⟩|⟨i,qr, -, -,hq,hW⟩
 ·exact⟨(Pw G L).mono (Nat.le_succ _),L.stp⟩
 ·exact hW.gd G hq hv hgk hov
theorem proto_en (h:HP) (j:Nat) (q:OB) (w:World) (H:h.Is w) (N:Nat) (G:h.Gd N) (hj:h.l[j]? =some q):Calls Tryz.prog 118 #[.pointer (some ⟨h.b,0,none⟩), .int .i64 ((j:Int)+1)] w fun e w'=> ∃(h1:HP) (V:VV) (er:Value),e= .returned (.tuple #[V.agg,er])/\((Low h h1/\True)/\Ja h h1 er)/\h.To h1 w w':=by
 have K:=G.wf
 by_cases h0:h.fuel=0
 ·refine(Ui h j  w H h0).mono ?_
  rintro _ Y ⟨rfl,T⟩
  exact⟨h,Aq,Ax 1,rfl,⟨⟨Low.refl K.ok,trivial⟩, .inr (.inl rfl),fun _=>⟨rfl,rfl⟩,fun h1=>absurd h0 h1⟩,T⟩
 by_cases hd:h.ent=h.depth
 ·refine(Uh h j  w H K.ok h0 hd).mono ?_
  rintro _ Y ⟨rfl,T⟩
  exact⟨h.less,Aq,Ax 2,rfl,⟨⟨Ea K.ok h0,trivial⟩, .inr (.inr rfl),fun h1=>absurd h1 h0,fun _=>by show h.fuel - 1<h.fuel;omega⟩,T⟩
 ·have hp:=K.ok.f0
  refine(Ug h j q  (fun h1 V er=>er= .nilIface/\(h1=h.inn/\True)) w H K.ok hj h0 hd (fun X TX=> ?_)).mono ?_
  ·refine(Zf7 h.inn j q X TX.is K.ok.len hj).mono ?_
   rintro e Y ⟨rfl,hb⟩
   exact⟨h.inn,_,_,rfl,⟨rfl,rfl,trivial⟩,rfl,HP.To.refl TX.is hb⟩
  ·rintro e Y ⟨h1,V,er,rfl,⟨rfl,hQ⟩,T⟩
   obtain⟨rfl,hx⟩:=hQ
   rw[Mz] at T
   exact⟨h.less,V, .nilIface,rfl,⟨⟨Ea K.ok h0,hx⟩, .inl rfl,fun h1=>absurd h1 h0,fun _=>by show h.fuel - 1<h.fuel;omega⟩,T⟩
theorem ext_en (h:HP) (j:Nat) (q:OB) (w:World) (H:h.Is w) (N:Nat) (G:h.Gd N) (hj:h.l[j]? =some q):Calls Tryz.prog 120 #[.pointer (some ⟨h.b,0,none⟩), .int .i64 ((j:Int)+1)] w fun e w'=> ∃(h1:HP) (y:Bool) (er:Value),e= .returned (.tuple #[.bool y,er])/\((Low h h1/\True)/\Ja h h1 er)/\h.To h1 w w':=by
 have K:=G.wf
 by_cases h0:h.fuel=0
 ·refine(Yd h j  w H h0).mono ?_
  rintro _ Y ⟨rfl,T⟩
  exact⟨h,false,Ax 1,rfl,⟨⟨Low.refl K.ok,trivial⟩, .inr (.inl rfl),fun _=>⟨rfl,rfl⟩,fun h1=>absurd h0 h1⟩,T⟩
 by_cases hd:h.ent=h.depth
 ·refine(Yc h j  w H K.ok h0 hd).mono ?_
  rintro _ Y ⟨rfl,T⟩
  exact⟨h.less,false,Ax 2,rfl,⟨⟨Ea K.ok h0,trivial⟩, .inr (.inr rfl),fun h1=>absurd h1 h0,fun _=>by show h.fuel - 1<h.fuel;omega⟩,T⟩
 ·have hp:=K.ok.f0
  refine(Ya h j q  (fun h1 y er=>er= .nilIface/\(h1=h.inn/\True)) w H K.ok hj h0 hd (fun X TX=> ?_)).mono ?_
  ·refine(ord_ext h.inn j q X TX.is K.ok.len hj).mono ?_
   rintro e Y ⟨rfl,hb⟩
   exact⟨h.inn,_,_,rfl,⟨rfl,rfl,trivial⟩,rfl,HP.To.refl TX.is hb⟩
  ·rintro e Y ⟨h1,y,er,rfl,⟨rfl,hQ⟩,T⟩
   obtain⟨rfl,hx⟩:=hQ
   rw[Mz] at T
   exact⟨h.less,y, .nilIface,rfl,⟨⟨Ea K.ok h0,hx⟩, .inl rfl,fun h1=>absurd h1 h0,fun _=>by show h.fuel - 1<h.fuel;omega⟩,T⟩
theorem Xm {T:TT} {W:World} (h:T.Is W):T.live.length<=T.last:=by
 have h1:T.live.length<=T.rows.length:=List.length_filter_le _ _
 have h2:=h.rise
 have h3:=h.num
 clear h
 have key: ∀(l:List RR) (m:Nat),l.Pairwise (fun a b=>a.n<b.n)->(∀r∈l,m<r.n/\r.n<=T.last)->l.length+m<=T.last∨l= []:=by
  intro l
  induction l with
  |nil=>exact fun m _ _=> .inr rfl
  |cons a l ih=>
   intro m hp hn
   left
   rw[List.pairwise_cons] at hp
   rcases ih a.n hp.2 (fun r hr=>⟨hp.1 r hr,(hn r (List.mem_cons_of_mem _ hr)).2⟩) with h|h
   ·have:=(hn a (List.mem_cons_self ..)).1
    simp only[List.length_cons]
    omega
   ·subst h
    have:=hn a (List.mem_cons_self ..)
    simp only[List.length_cons,List.length_nil]
    omega
 rcases key T.rows 0 h2 (fun r hr=>⟨(h3 r hr).1,(h3 r hr).2⟩) with h|h
 ·omega
 ·rw[h] at h1
  simp at h1
  rw[h1]
  exact Nat.zero_le _
theorem sl_form {w:World} {b:Nat} {v:Value} {l:List KK} (h:OwnK w b v l): ∃A n c,v= .slice A n c:=by
 obtain⟨A,c,e⟩:=Ex h
 exact⟨A,_,c,e⟩
theorem keys_en (h:HP) (j:Nat) (q:OB) (w:World) (H:h.Is w) (N:Nat) (G:h.Gd N) (hj:h.l[j]? =some q) (hN:N<=90000) (hT:Tabs w):Calls Tryz.prog 125 #[.pointer (some ⟨h.b,0,none⟩), .int .i64 ((j:Int)+1)] w fun e w'=> ∃(h1:HP) (V:Value) (er:Value),e= .returned (.tuple #[V,er])/\((Low h h1/\(∃A n c,V= .slice A n c))/\Ja h h1 er)/\h.To h1 w w':=by
 have K:=G.wf
 by_cases h0:h.fuel=0
 ·refine(Rl h j  w H h0).mono ?_
  rintro _ Y ⟨rfl,T⟩
  exact⟨h, .slice none 0 0,Ax 1,rfl,⟨⟨Low.refl K.ok,_,_,_,rfl⟩, .inr (.inl rfl),fun _=>⟨rfl,rfl⟩,fun h1=>absurd h0 h1⟩,T⟩
 by_cases hd:h.ent=h.depth
 ·refine(Rk h j  w H K.ok h0 hd).mono ?_
  rintro _ Y ⟨rfl,T⟩
  exact⟨h.less, .slice none 0 0,Ax 2,rfl,⟨⟨Ea K.ok h0,_,_,_,rfl⟩, .inr (.inr rfl),fun h1=>absurd h1 h0,fun _=>by show h.fuel - 1<h.fuel;omega⟩,T⟩
 ·have hp:=K.ok.f0
  refine(Rj h j q  (fun h1 V er=>er= .nilIface/\(h1=h.inn/\(∃A n c,V= .slice A n c))) w H K.ok hj h0 hd (fun X TX=> ?_)).mono ?_
  ·refine(ord_keys h.inn j q X TX.is K.ok.len hj (TX.tabs H hT) (by have:=G.few j q hj;omega) (by have:=Xm (TX.is.ob hj).2.1;have:=G.few j q hj;omega)).mono ?_
   rintro e Y ⟨v,l9,rfl,hO,hb⟩
   exact⟨h.inn,_,_,rfl,⟨rfl,rfl,sl_form hO⟩,rfl,HP.To.refl TX.is hb⟩
  ·rintro e Y ⟨h1,V,er,rfl,⟨rfl,hQ⟩,T⟩
   obtain⟨rfl,hx⟩:=hQ
   rw[Mz] at T
   exact⟨h.less,V, .nilIface,rfl,⟨⟨Ea K.ok h0,hx⟩, .inl rfl,fun h1=>absurd h1 h0,fun _=>by show h.fuel - 1<h.fuel;omega⟩,T⟩
theorem prev_en (h:HP) (j:Nat) (q:OB) (w:World) (H:h.Is w) (N:Nat) (G:h.Gd N) (hj:h.l[j]? =some q):Calls Tryz.prog 121 #[.pointer (some ⟨h.b,0,none⟩), .int .i64 ((j:Int)+1)] w fun e w'=> ∃(h1:HP) (y:Bool) (er:Value),e= .returned (.tuple #[.bool y,er])/\((((y=false/\Low h h1)∨(y=true/\er= .nilIface/\Low (h.shut j q) h1)))/\Ja h h1 er)/\h.To h1 w w':=by
 have K:=G.wf
 by_cases h0:h.fuel=0
 ·refine(Pd h j  w H h0).mono ?_
  rintro _ Y ⟨rfl,T⟩
  exact⟨h,false,Ax 1,rfl,⟨.inl ⟨rfl,Low.refl K.ok⟩, .inr (.inl rfl),fun _=>⟨rfl,rfl⟩,fun h1=>absurd h0 h1⟩,T⟩
 by_cases hd:h.ent=h.depth
 ·refine(Pc h j  w H K.ok h0 hd).mono ?_
  rintro _ Y ⟨rfl,T⟩
  exact⟨h.less,false,Ax 2,rfl,⟨.inl ⟨rfl,Ea K.ok h0⟩, .inr (.inr rfl),fun h1=>absurd h1 h0,fun _=>by show h.fuel - 1<h.fuel;omega⟩,T⟩
 ·have hp:=K.ok.f0
  refine(Pb h j q  (fun h1 y er=>er= .nilIface/\(h1=h.inn.shut j q/\y=true)) w H K.ok hj h0 hd (fun X TX=> ?_)).mono ?_
  ·refine(Zde h.inn j q X TX.is K.ok.len hj).mono ?_
   rintro e Y ⟨rfl,T⟩
   exact⟨_,_,_,rfl,⟨rfl,rfl,rfl⟩,rfl,T⟩
  ·rintro e Y ⟨h1,y,er,rfl,⟨rfl,hQ⟩,T⟩
   obtain⟨rfl,rfl⟩:=hQ
   exact⟨_,true, .nilIface,rfl,⟨.inr ⟨rfl,rfl,⟨by unfold HP.out HP.inn HP.shut;simp,by show h.fuel - 1<=h.fuel;omega,by show 0<=h.fuel - 1;omega⟩⟩, .inl rfl,fun h1=>absurd h1 h0,fun _=>by show h.fuel - 1<h.fuel;omega⟩,T⟩
theorem del_en (h:HP) (j:Nat) (q:OB) (k:KK) (w:World) (H:h.Is w) (N:Nat) (G:h.Gd N) (hj:h.l[j]? =some q) (hN:N<=90000) (hk:OkK k):Calls Tryz.prog 124 #[.pointer (some ⟨h.b,0,none⟩), .int .i64 ((j:Int)+1),k.agg] w fun e w'=> ∃(h1:HP) (y:Bool) (er:Value),e= .returned (.tuple #[.bool y,er])/\((((y=false/\Low h h1)∨(er= .nilIface/\((y=true/\Low h h1)∨(y=true/\ ∃T':TT,(getD q.T k).c≠1/\Low (h.tab j q T') h1/\T'.last=q.T.last/\pr T'=Un (pr q.T) k)))))/\Ja h h1 er)/\h.To h1 w w':=by
 have K:=G.wf
 by_cases h0:h.fuel=0
 ·refine(ZeE h j k w H h0).mono ?_
  rintro _ Y ⟨rfl,T⟩
  exact⟨h,false,Ax 1,rfl,⟨.inl ⟨rfl,Low.refl K.ok⟩, .inr (.inl rfl),fun _=>⟨rfl,rfl⟩,fun h1=>absurd h0 h1⟩,T⟩
 by_cases hd:h.ent=h.depth
 ·refine(ZeD h j k w H K.ok h0 hd).mono ?_
  rintro _ Y ⟨rfl,T⟩
  exact⟨h.less,false,Ax 2,rfl,⟨.inl ⟨rfl,Ea K.ok h0⟩, .inr (.inr rfl),fun h1=>absurd h1 h0,fun _=>by show h.fuel - 1<h.fuel;omega⟩,T⟩
 ·have hp:=K.ok.f0
  refine(ZeC h j q k (fun h1 y er=>er= .nilIface/\(DelP h.inn j q k h1 y)) w H K.ok hj h0 hd (fun X TX=> ?_)).mono ?_
  ·refine(Zeg h.inn j q k X TX.is K.ok.len hj hk (by have:=G.few j q hj;omega)).mono ?_
   rintro e Y ⟨h1,y,rfl,hD,T⟩
   refine⟨h1,y, .nilIface,rfl,⟨rfl,hD⟩, ?_,T⟩
   rcases hD with ⟨-,rfl, -⟩|⟨-, -,rfl, -⟩|⟨-, -, -,T',rfl, -⟩<;>rfl
  ·rintro e Y ⟨h1,y,er,rfl,⟨rfl,hQ⟩,T⟩
   rcases hQ with ⟨-,rfl,rfl⟩|⟨-, -,rfl,rfl⟩|⟨-,hc1,rfl,T',rfl,hl,hp⟩
   ·rw[Mz] at T
    exact⟨h.less,true, .nilIface,rfl,⟨.inr ⟨rfl, .inl ⟨rfl,Ea K.ok h0⟩⟩, .inl rfl,fun h1=>absurd h1 h0,fun _=>by show h.fuel - 1<h.fuel;omega⟩,T⟩
   ·rw[Mz] at T
    exact⟨h.less,false, .nilIface,rfl,⟨.inl ⟨rfl,Ea K.ok h0⟩, .inl rfl,fun h1=>absurd h1 h0,fun _=>by show h.fuel - 1<h.fuel;omega⟩,T⟩
   ·exact⟨_,true, .nilIface,rfl,⟨.inr ⟨rfl, .inr ⟨rfl,T',hc1,⟨by unfold HP.out HP.inn HP.tab;simp,by show h.fuel - 1<=h.fuel;omega,by show 0<=h.fuel - 1;omega⟩,hl,hp⟩⟩, .inl rfl,fun h1=>absurd h1 h0,fun _=>by show h.fuel - 1<h.fuel;omega⟩,T⟩
theorem rch_inn {h:HP} {o x:Nat} (hr:Rch h o x):Rch h.inn o x:=by
 induction hr with
 |here=>exact .here
 |step a b c _ ih=>exact .step (h:=h.inn) a b c ih
theorem setp_en (h:HP) (j:Nat) (q:OB) (v:VV) (w:World) (H:h.Is w) (N:Nat) (G:h.Gd N) (hj:h.l[j]? =some q) (hv:v.k=7->1<=v.i/\v.i<=(h.l.length:Int)):Calls Tryz.prog 119 #[.pointer (some ⟨h.b,0,none⟩), .int .i64 ((j:Int)+1),v.agg] w fun e w'=> ∃(h1:HP) (y:Bool) (er:Value),e= .returned (.tuple #[.bool y,er])/\((((y=false/\Low h h1)∨(er= .nilIface/\(Low h h1∨(y=true/\Low (h.prot j q v) h1/\q.x=true/\ ∀i:Nat,v.k=7->v.i=(i:Int)+1-> ¬Rch h j i)))))/\Ja h h1 er)/\h.To h1 w w':=by
 have K:=G.wf
 by_cases h0:h.fuel=0
 ·refine(Uf h j v w H h0).mono ?_
  rintro _ Y ⟨rfl,T⟩
  exact⟨h,false,Ax 1,rfl,⟨.inl ⟨rfl,Low.refl K.ok⟩, .inr (.inl rfl),fun _=>⟨rfl,rfl⟩,fun h1=>absurd h0 h1⟩,T⟩
 by_cases hd:h.ent=h.depth
 ·refine(Ue h j v w H K.ok h0 hd).mono ?_
  rintro _ Y ⟨rfl,T⟩
  exact⟨h.less,false,Ax 2,rfl,⟨.inl ⟨rfl,Ea K.ok h0⟩, .inr (.inr rfl),fun h1=>absurd h1 h0,fun _=>by show h.fuel - 1<h.fuel;omega⟩,T⟩
 ·have hp:=K.ok.f0
  refine(Ud h j q v (fun h1 y er=>er= .nilIface/\(SpP h.inn j q v h1 y)) w H K.ok hj h0 hd (fun X TX=> ?_)).mono ?_
  ·refine(Zcg h.inn j q v X TX.is (Zcr K h0 hd) G.ac hj hv).mono ?_
   rintro e Y ⟨h1,y,rfl,hD,T⟩
   refine⟨h1,y, .nilIface,rfl,⟨rfl,hD⟩, ?_,T⟩
   rcases hD with rfl|⟨-,rfl, -⟩<;>rfl
  ·rintro e Y ⟨h1,y,er,rfl,⟨rfl,hQ⟩,T⟩
   rcases hQ with rfl|⟨rfl,rfl,hx,hR⟩
   ·rw[Mz] at T
    exact⟨h.less,y, .nilIface,rfl,⟨.inr ⟨rfl, .inl (Ea K.ok h0)⟩, .inl rfl,fun h1=>absurd h1 h0,fun _=>by show h.fuel - 1<h.fuel;omega⟩,T⟩
   ·exact⟨_,true, .nilIface,rfl,⟨.inr ⟨rfl, .inr ⟨rfl,⟨by unfold HP.out HP.inn HP.prot;simp,by show h.fuel - 1<=h.fuel;omega,by show 0<=h.fuel - 1;omega⟩,hx,fun i h1 h2 h3=>hR i h1 h2 (rch_inn h3)⟩⟩, .inl rfl,fun h1=>absurd h1 h0,fun _=>by show h.fuel - 1<h.fuel;omega⟩,T⟩
end
section
open Go Go.Proofs Go.Maps Go.RowKit FM Tryz
attribute [local go_sem] Al Ak Ar Ah Am Ai Au Dd Db Bi Aj Bh
theorem Br {o:Oper} {a:Act} {W:World} {x:Operand} {B p:Nat} {vs:List Value} (t:TypeId) (n:Nat) (hu: ∃d,prog.underlying t=some d/\d.isRow=true) (hi:(prog.info? t).map (·.size)=some n) (ho:o.op= .load t x) (hx:a.eval x= .pointer (some ⟨B,p,none⟩)) (h0:W.rangeAt B p vs) (hn:vs.length=n):(execOp a.eval o).run prog W= .ok (.value (.agg vs.toArray)) W:=by
 obtain⟨d,hu,hd⟩:=hu
 unfold execOp
 simp only[ho,hx,Instr.loadAt,Instr.sureAddr,Sem.run_bind,Sem.run_pure,Result.andThen_ok,run_loadVar_mid W B p t vs d h0 hu hd (by rw[hi,hn])]
theorem Zd8 {w:World} {b p:Nat} {a c:List Value} (h:w.rangeAt b p (a++c)):w.rangeAt b p a:=fun j v hv=>h j v (by rw[List.getElem?_append_left (List.getElem?_eq_some_iff.1 hv).1];exact hv)
theorem Mx {w:World} {b p:Nat} {a c:List Value} (h:w.rangeAt b p (a++c)):w.rangeAt b (p+a.length) c:=fun j v hv=>by
 have:=h (a.length+j) v (by rw[List.getElem?_append_right (by omega)];simpa using hv)
 rwa [←Nat.add_assoc] at this
theorem Bw {o:Oper} {a:Act} {w:World} {x ix:Operand} {g off n cap:Nat} (t:TypeId) (sz j:Nat) (hk:prog.underlying t=some (.slice (prog.elem t))) (he: ∀w,(sizeOf (prog.elem t)).run prog w= .ok sz w) (ho:o.op= .indexAddr t x ix) (hx:a.eval x= .slice (some ⟨g,off,none⟩) n cap) (hix:a.eval ix= .int .i64 (j:Nat)) (hj:j<n):(execOp a.eval o).run prog w= .ok (.value (.pointer (some ⟨g,off+j * sz,none⟩))) w:=by
 have h1:(Instr.indexAt t (.slice (some ⟨g,off,none⟩) n cap) (.int .i64 (j:Nat))).run prog w= .ok (.pointer (some ⟨g,off+j * sz,none⟩)) w:=by
  rw[run_indexAt_slice (h:=hk),if_pos ⟨by omega,by omega⟩,he]
  have e2:(Addr.add ⟨g,off,none⟩ ((j:Int).toNat * sz))=⟨g,off+j * sz,none⟩:=by
   rw[Addr.add_mid]
   simp
  show Result.ok (Value.pointer (some (Addr.add ⟨g,off,none⟩ ((j:Int).toNat * sz)))) w=_
  rw[e2]
 unfold execOp
 simp only[ho,hx,hix]
 simp[h1]
def orE:List Int->Int
 | []=>0
 |e::l=>if e=0 then orE l else e
theorem Zfb: ∀(l:List Int) (i:Nat) (e:Int),(∀j u,j<i->l[j]? =some u->u=0)->l[i]? =some e->e≠0->orE l=e
 | [],i,e,_,h,_=>by simp at h
 |x::l,0,e,_,h,h0=>by
  obtain rfl:x=e:=by simpa using h
  simp[orE,h0]
 |x::l,i+1,e,ha,h,h0=>by
  have hx:x=0:=ha 0 x (by omega) rfl
  simp only[orE,hx,if_true]
  exact Zfb l i e (fun j u hj hu=>ha (j+1) u (by omega) (by simpa using hu)) (by simpa using h) h0
theorem Zdf: ∀(l:List Int),(∀j u,j<l.length->l[j]? =some u->u=0)->orE l=0
 | [],_=>rfl
 |x::l,ha=>by
  have hx:x=0:=ha 0 x (by simp) rfl
  simp only[orE,hx,if_true]
  exact Zdf l (fun j u hj hu=>ha (j+1) u (by simpa using hj) (by simpa using hu))
def Mr (l:List Int):List Value:=l.map (fun e=> .int .i64 e)
def Kx (w:World) (A:Option Addr) (l:List VV):Prop:= ∀(j:Nat) (v:VV),l[j]? =some v-> ∃b off,A=some ⟨b,off,none⟩/\b<w.heap.size/\w.rangeAt b (off+j * 5) v.cs
theorem Jj {w X:World} {b p:Nat} {cs:List Value} (h:w.rangeAt b p cs) (hb:b<w.heap.size) (k:Below w.heap.size w X):X.rangeAt b p cs:=fun j v hv=>by
 have e:=h j v hv
 have h1:=k.block b hb
 unfold World.cell? at e ⊢
 dsimp only at e ⊢
 rw[h1]
 exact e
theorem ZbT (h:HP) (o:Int) (w:World) (H:h.Is w) (hl:h.l.length<=65536):Calls prog 137 #[.pointer (some ⟨h.b,0,none⟩), .int .i64 o] w fun e w'=>e= .returned (.tuple #[.nilIface, .int .i64 8])/\w'=w:=by
 obtain⟨z,hz⟩: ∃z,Ri o h.l.length=z:=⟨_,rfl⟩
 have HA:=Zds h o w H
 rw[hz] at HA
 cases z
 ·go_enter func137,ntmps137
  go_wp2_with fail
  refine HA.mono ?_
  rintro _ _ ⟨rfl,rfl⟩
  go_wp2
  go_ret2
  exact⟨rfl,rfl⟩
 ·obtain⟨j,q,ho,hj⟩:=Mk hz
  have HT:=Kv h j q w H hj hl
  rw[←ho] at HT
  have HO:=Ab (H.ob hj).1
  clear ho
  go_enter func137,ntmps137
  go_wp2_with fail
  refine HA.mono ?_
  rintro _ _ ⟨rfl,rfl⟩
  go_wp2_with fail
  refine HT.mono ?_
  rintro _ _ ⟨rfl,rfl⟩
  go_wp2_with (first|go_skip|((with_reducible show wpList ..);(refine rd rfl (Ad 153 isAgg153 rfl rfl (Aa HO) rfl) ?_)))
  go_ret2
  exact⟨rfl,rfl⟩
theorem ZdL (h:HP) (o:Int) (w:World) (H:h.Is w) (hl:h.l.length<=65536):Calls prog 93 #[.pointer (some ⟨h.b,0,none⟩), .int .i64 o] w fun e w'=>e= .returned (.int .i64 8)/\w'=w:=by
 have HA:=ZbT h o w H hl
 clear H
 go_enter func93,ntmps93
 go_wp2_with fail
 refine HA.mono ?_
 rintro _ _ ⟨rfl,rfl⟩
 go_wp2
 go_ret
 exact⟨rfl,rfl⟩
theorem Gy {o:Oper} {a:Act} {w:World} {x y:Operand} {n m:Int} (ho:o.op= .binOp .neq 31 x y 31) (hx:a.eval x= .int .i64 n) (hc:a.eval y= .int .i64 m) (h:n≠m):(execOp a.eval o).run prog w= .ok (.value (.bool true)) w:=by
 unfold execOp
 simp only[ho,hx,hc]
 simp[go_sem,eqGuard,h]
theorem Lm {o:Oper} {a:Act} {w:World} {x y:Operand} {n m:Int} (ho:o.op= .binOp .neq 31 x y 31) (hx:a.eval x= .int .i64 n) (hc:a.eval y= .int .i64 m) (h:n=m):(execOp a.eval o).run prog w= .ok (.value (.bool false)) w:=by
 unfold execOp
 simp only[ho,hx,hc]
 simp[go_sem,eqGuard,h]
theorem Mh (B c:Nat) (es:List Int) (w:World) (hR:Holds w B (Mr es)) (hz:es.length<=100):Calls prog 36 #[.slice (some ⟨B,0,none⟩) es.length c] w fun e w'=>e= .returned (.int .i64 (orE es))/\w'=w:=by
 have HR:=Ab hR
 have HZ:=Ab hz
 clear hR hz
 go_enter func36,ntmps36
 go_wp2_with (first|go_skip|((with_reducible show wpList ..);(refine rd rfl (Bp 159 31 underlying159 rfl rfl) ?_)))
 go_loopg [8] es.length (fun gm s8 wr=> ∃i:Nat,s8= .int .i64 (i:Nat)/\i<=es.length/\es.length - i<=gm/\Hid (∀j u,j<i->es[j]? =some u->u=0)/\wr=w)
 case atStart=>exact⟨0,rfl,by omega,by omega,Ab (fun j v hj=>by omega),rfl⟩
 case round=>
  obtain⟨i,rfl,hil,hgm,HD,rfl⟩:=hrel
  by_cases hlt:i<es.length
  ·have dlt:decide ((i:Int)<(es.length:Int))=true:=decide_eq_true (by omega)
   have hw1:IntKind.i64.wrap ((i:Int)+1)=(i:Int)+1:=by have:=Aa HZ;rw[IntKind.wrap_i64];omega
   obtain⟨e,he⟩: ∃e,es[i]? =some e:=⟨_,List.getElem?_eq_getElem hlt⟩
   have HC:Hid (wr.cell? ⟨B,0+i * 1,none⟩=some (.int .i64 e)):=Ab (by
    have:=(Aa HR).cell i (v:= .int .i64 e) (by unfold Mr;rw[List.getElem?_map,he];rfl)
    rw[Nat.zero_add,Nat.mul_one]
    exact this)
   have HLT:=Ab hlt
   clear hlt hil
   by_cases h0:e=0
   ·have HD2:Hid (∀j u,j<i+1->es[j]? =some u->u=0):=Ab (fun j u hj hu=>by
     rcases Nat.lt_or_ge j i with h|h
     ·exact Aa HD j u h hu
     ·obtain rfl:j=i:=by omega
      exact(Option.some.inj (he.symm.trans hu))▸h0)
    clear he HD
    go_wp2_with (first|go_skip|((with_reducible show wpList ..);first|(refine rd rfl (Bw 159 1 i unEs idEs rfl rfl rfl (Aa HLT)) ?_)|(refine rd rfl (Vl 31 isAgg31 rfl rfl (Aa HC)) ?_)|(refine rd rfl (Lm rfl rfl rfl h0) ?_)))
    go_roundg (es.length - (i+1))
    case measure=>have:=Aa HLT;omega
    case rel=>exact⟨i+1,by go_num,by have:=Aa HLT;omega,by omega,HD2,rfl⟩
   ·have HE:Hid (orE es=e):=Ab (Zfb es i e (Aa HD) he h0)
    clear he HD
    go_wp2_with (first|go_skip|((with_reducible show wpList ..);first|(refine rd rfl (Bw 159 1 i unEs idEs rfl rfl rfl (Aa HLT)) ?_)|(refine rd rfl (Vl 31 isAgg31 rfl rfl (Aa HC)) ?_)|(refine rd rfl (Gy rfl rfl rfl h0) ?_)))
    go_ret
    exact⟨by rw[Aa HE];rfl,rfl⟩
  ·obtain rfl:i=es.length:=by omega
   have HE:Hid (orE es=0):=Ab (Zdf es (Aa HD))
   clear hlt hil HD
   go_wp2
   go_ret
   exact⟨by rw[Aa HE];rfl,rfl⟩
theorem Ur {f:VV->Bool} {l:List VV} {i:Nat} {v:VV} (hv:l[i]? =some v) (hf:f v=false):l.all f=false:=by
 rw[List.all_eq_false]
 exact⟨v,List.mem_of_getElem? hv,by simp[hf]⟩
theorem Yl {f:VV->Bool} {l:List VV} (h: ∀j v,j<l.length->l[j]? =some v->f v=true):l.all f=true:=by
 rw[List.all_eq_true]
 intro v hv
 obtain⟨j,hj⟩:=List.getElem?_of_mem hv
 exact h j v (List.getElem?_eq_some_iff.1 hj).1 hj
def Mi (n:Nat) (v:VV):Bool:= !(v.k==7)||Ri v.i n
def Ay (n:Nat) (vs:List VV):Int:=if vs.all (Mi n) then 0 else 4
def Bm (vs:List VV):Int:=if vs.all VV.good then 0 else 5
def Yn (v:VV):Bool:= !(v.k==7)
def Mu (vs:List VV):Int:=if vs.all Yn then 0 else 8
theorem Lx (h:HP) (B:Option Addr) (c:Nat) (vs:List VV) (w:World) (H:h.Is w) (hR:Kx w B vs) (hz:vs.length<=1000000):Calls prog 40 #[.pointer (some ⟨h.b,0,none⟩), .slice B vs.length c] w fun e w'=>e= .returned (.int .i64 (Ay h.l.length vs))/\Below w.heap.size w w':=by
 have SS:=Ab (Sy.nil w [])
 have HH:=Ab H
 clear H
 have HR:=Ab hR
 have HZ:=Ab hz
 clear hR hz
 go_enter func40,ntmps40
 go_wp2_with (first|go_skip|((with_reducible show wpList ..);(refine rd rfl (Bp 44 40 underlying44 rfl rfl) ?_)))
 go_loopg [9] vs.length (fun gm s9 wr=> ∃i:Nat,s9= .int .i64 (i:Nat)/\i<=vs.length/\vs.length - i<=gm/\Hid (∀j v,j<i->vs[j]? =some v->Mi h.l.length v=true)/\Hid (Sy w wr [] []))
 case atStart=>exact⟨0,rfl,by omega,by omega,Ab (fun j v hj=>by omega),SS⟩
 case round=>
  clear SS
  obtain⟨i,rfl,hil,hgm,HD,SS⟩:=hrel
  by_cases hlt:i<vs.length
  ·have dlt:decide ((i:Int)<(vs.length:Int))=true:=decide_eq_true (by omega)
   have hw1:IntKind.i64.wrap ((i:Int)+1)=(i:Int)+1:=by have:=Aa HZ;rw[IntKind.wrap_i64];omega
   obtain⟨v,hv⟩: ∃v,vs[i]? =some v:=⟨_,List.getElem?_eq_getElem hlt⟩
   obtain⟨b,off,hA,hb,hrg⟩:=(Aa HR) i v hv
   subst hA
   have HA2:Hid (∀X,Below w.heap.size w X->X.rangeAt b (off+i * 5) v.cs):=Ab (fun X hX=>Jj hrg hb hX)
   have HLT:=Ab hlt
   clear hb hrg hlt hil
   by_cases hk:v.k=7
   ·obtain⟨z,hz⟩: ∃z,Ri v.i h.l.length=z:=⟨_,rfl⟩
    cases z
    ·have HFA:Hid (vs.all (Mi h.l.length)=false):=Ab (Ur hv (by unfold Mi;rw[hz];simp[hk]))
     go_wp2_with (first|go_skip|((with_reducible show wpList ..);first|(refine rd rfl (Bw 44 5 i Zy ZaF rfl rfl rfl (Aa HLT)) ?_)|(refine rd rfl (Br (vs:=v.cs) 40 5 rwV szV rfl rfl (Aa HA2 _ (Aa SS).fr.below) rfl) ?_)|(refine zA 40 (Aq.cs) rfl SS ?_;clear SS;intro X3 B3 SS;simp only[nn])|(refine zS (v.cs) 0 40 rfl rfl rfl rfl (Gh v) szV SS rfl ?_;clear SS;intro X4 SS;simp only[nn])|(refine rd rfl (Ad 3 isAgg3 rfl rfl ((Aa SS).hold 0 rfl) rfl) ?_)|(refine rd rfl (Mo rfl rfl rfl hk) ?_)))
     have HO:=Zds h v.i _ ((Aa HH).on (Aa SS).fr.below)
     rw[hz] at HO
     refine HO.mono ?_
     rintro e X5 ⟨rfl,rfl⟩
     go_wp2
     go_ret
     exact⟨by unfold Ay;rw[Aa HFA];rfl,(Aa SS).fr.below⟩
    ·have HD2:Hid (∀j u,j<i+1->vs[j]? =some u->Mi h.l.length u=true):=Ab (fun j u hj hu=>by
      rcases Nat.lt_or_ge j i with h|h
      ·exact Aa HD j u h hu
      ·obtain rfl:j=i:=by omega
       obtain rfl:v=u:=Option.some.inj (hv.symm.trans hu)
       exact(by unfold Mi;rw[hz];simp))
     clear HD
     go_wp2_with (first|go_skip|((with_reducible show wpList ..);first|(refine rd rfl (Bw 44 5 i Zy ZaF rfl rfl rfl (Aa HLT)) ?_)|(refine rd rfl (Br (vs:=v.cs) 40 5 rwV szV rfl rfl (Aa HA2 _ (Aa SS).fr.below) rfl) ?_)|(refine zA 40 (Aq.cs) rfl SS ?_;clear SS;intro X3 B3 SS;simp only[nn])|(refine zS (v.cs) 0 40 rfl rfl rfl rfl (Gh v) szV SS rfl ?_;clear SS;intro X4 SS;simp only[nn])|(refine rd rfl (Ad 3 isAgg3 rfl rfl ((Aa SS).hold 0 rfl) rfl) ?_)|(refine rd rfl (Mo rfl rfl rfl hk) ?_)))
     have HO:=Zds h v.i _ ((Aa HH).on (Aa SS).fr.below)
     rw[hz] at HO
     refine HO.mono ?_
     rintro e X5 ⟨rfl,rfl⟩
     replace SS:=Ab (Sy.left (L:= []) (M:= [_]) (Aa SS))
     go_wp2
     go_roundg (vs.length - (i+1))
     case measure=>have:=Aa HLT;omega
     case rel=>exact⟨i+1,by go_num,by have:=Aa HLT;omega,by omega,HD2,SS⟩
   ·have HD2:Hid (∀j u,j<i+1->vs[j]? =some u->Mi h.l.length u=true):=Ab (fun j u hj hu=>by
     rcases Nat.lt_or_ge j i with h|h
     ·exact Aa HD j u h hu
     ·obtain rfl:j=i:=by omega
      obtain rfl:v=u:=Option.some.inj (hv.symm.trans hu)
      exact(by unfold Mi;simp[hk]))
    clear HD
    go_wp2_with (first|go_skip|((with_reducible show wpList ..);first|(refine rd rfl (Bw 44 5 i Zy ZaF rfl rfl rfl (Aa HLT)) ?_)|(refine rd rfl (Br (vs:=v.cs) 40 5 rwV szV rfl rfl (Aa HA2 _ (Aa SS).fr.below) rfl) ?_)|(refine zA 40 (Aq.cs) rfl SS ?_;clear SS;intro X3 B3 SS;simp only[nn])|(refine zS (v.cs) 0 40 rfl rfl rfl rfl (Gh v) szV SS rfl ?_;clear SS;intro X4 SS;simp only[nn])|(refine rd rfl (Ad 3 isAgg3 rfl rfl ((Aa SS).hold 0 rfl) rfl) ?_)|(refine rd rfl (Ma rfl rfl rfl hk) ?_)))
    replace SS:=Ab (Sy.left (L:= []) (M:= [_]) (Aa SS))
    go_wp2
    go_roundg (vs.length - (i+1))
    case measure=>have:=Aa HLT;omega
    case rel=>exact⟨i+1,by go_num,by have:=Aa HLT;omega,by omega,HD2,SS⟩
  ·obtain rfl:i=vs.length:=by omega
   have HTA:Hid (vs.all (Mi h.l.length)=true):=Ab (Yl (fun j v hj hv=>Aa HD j v hj hv))
   clear hlt hil HD
   go_wp2_with (go_skip)
   go_ret
   exact⟨by unfold Ay;rw[Aa HTA];rfl,(Aa SS).fr.below⟩
theorem Og (B:Option Addr) (c:Nat) (vs:List VV) (w:World) (hT:Lib.Utf8Tabs 1 2 w) (hR:Kx w B vs) (hz:vs.length<=1000000):Calls prog 43 #[.slice B vs.length c] w fun e w'=>e= .returned (.int .i64 (Bm vs))/\Below w.heap.size w w':=by
 have SS:=Ab (Sy.nil w [])
 have HT:=Ab hT
 clear hT
 have HR:=Ab hR
 have HZ:=Ab hz
 clear hR hz
 go_enter func43,ntmps43
 go_wp2_with (first|go_skip|((with_reducible show wpList ..);(refine rd rfl (Bp 44 40 underlying44 rfl rfl) ?_)))
 go_loopg [8] vs.length (fun gm s9 wr=> ∃i:Nat,s9= .int .i64 (i:Nat)/\i<=vs.length/\vs.length - i<=gm/\Hid (∀j v,j<i->vs[j]? =some v->VV.good v=true)/\Hid (Sy w wr [] []))
 case atStart=>exact⟨0,rfl,by omega,by omega,Ab (fun j v hj=>by omega),SS⟩
 case round=>
  clear SS
  obtain⟨i,rfl,hil,hgm,HD,SS⟩:=hrel
  by_cases hlt:i<vs.length
  ·have dlt:decide ((i:Int)<(vs.length:Int))=true:=decide_eq_true (by omega)
   have hw1:IntKind.i64.wrap ((i:Int)+1)=(i:Int)+1:=by have:=Aa HZ;rw[IntKind.wrap_i64];omega
   obtain⟨v,hv⟩: ∃v,vs[i]? =some v:=⟨_,List.getElem?_eq_getElem hlt⟩
   obtain⟨b,off,hA,hb,hrg⟩:=(Aa HR) i v hv
   subst hA
   have HA2:Hid (∀X,Below w.heap.size w X->X.rangeAt b (off+i * 5) v.cs):=Ab (fun X hX=>Jj hrg hb hX)
   have HLT:=Ab hlt
   clear hb hrg hlt hil
   obtain⟨z,hz⟩: ∃z,v.good=z:=⟨_,rfl⟩
   cases z
   ·have HFA:Hid (vs.all (VV.good)=false):=Ab (Ur hv hz)
    go_wp2_with (first|go_skip|((with_reducible show wpList ..);first|(refine rd rfl (Bw 44 5 i Zy ZaF rfl rfl rfl (Aa HLT)) ?_)|(refine rd rfl (Br (vs:=v.cs) 40 5 rwV szV rfl rfl (Aa HA2 _ (Aa SS).fr.below) rfl) ?_)|(refine zA 40 (Aq.cs) rfl SS ?_;clear SS;intro X3 B3 SS;simp only[nn])|(refine zS (v.cs) 0 40 rfl rfl rfl rfl (Gh v) szV SS rfl ?_;clear SS;intro X4 SS;simp only[nn])|(refine zL (v.cs) 40 5 0 rwV szV rfl rfl SS rfl rfl rfl ?_;simp only[nn])))
    have HO:=Mc v _ (Ao (Aa HT) (Aa SS).fr.below)
    rw[Dg] at HO
    refine HO.mono ?_
    rintro e X5 ⟨rfl,hb5⟩
    replace SS:=Ab ((Aa SS).on hb5)
    clear hb5 HO
    rw[show Za v.good=5 by rw[hz];rfl]
    go_wp2
    go_ret
    exact⟨by unfold Bm;rw[Aa HFA];rfl,(Aa SS).fr.below⟩
   ·have HD2:Hid (∀j u,j<i+1->vs[j]? =some u->VV.good u=true):=Ab (fun j u hj hu=>by
     rcases Nat.lt_or_ge j i with h|h
     ·exact Aa HD j u h hu
     ·obtain rfl:j=i:=by omega
      obtain rfl:v=u:=Option.some.inj (hv.symm.trans hu)
      exact hz)
    clear HD
    go_wp2_with (first|go_skip|((with_reducible show wpList ..);first|(refine rd rfl (Bw 44 5 i Zy ZaF rfl rfl rfl (Aa HLT)) ?_)|(refine rd rfl (Br (vs:=v.cs) 40 5 rwV szV rfl rfl (Aa HA2 _ (Aa SS).fr.below) rfl) ?_)|(refine zA 40 (Aq.cs) rfl SS ?_;clear SS;intro X3 B3 SS;simp only[nn])|(refine zS (v.cs) 0 40 rfl rfl rfl rfl (Gh v) szV SS rfl ?_;clear SS;intro X4 SS;simp only[nn])|(refine zL (v.cs) 40 5 0 rwV szV rfl rfl SS rfl rfl rfl ?_;simp only[nn])))
    have HO:=Mc v _ (Ao (Aa HT) (Aa SS).fr.below)
    rw[Dg] at HO
    refine HO.mono ?_
    rintro e X5 ⟨rfl,hb5⟩
    replace SS:=Ab ((Aa SS).on hb5)
    clear hb5 HO
    rw[show Za v.good=0 by rw[hz];rfl]
    replace SS:=Ab (Sy.left (L:= []) (M:= [_]) (Aa SS))
    go_wp2
    go_roundg (vs.length - (i+1))
    case measure=>have:=Aa HLT;omega
    case rel=>exact⟨i+1,by go_num,by have:=Aa HLT;omega,by omega,HD2,SS⟩
  ·obtain rfl:i=vs.length:=by omega
   have HTA:Hid (vs.all (VV.good)=true):=Ab (Yl (fun j v hj hv=>Aa HD j v hj hv))
   clear hlt hil HD
   go_wp2_with (go_skip)
   go_ret
   exact⟨by unfold Bm;rw[Aa HTA];rfl,(Aa SS).fr.below⟩
theorem acc_h (h:HP) (B:Option Addr) (c:Nat) (vs:List VV) (w:World) (H:h.Is w) (hl:h.l.length<=65536) (hR:Kx w B vs) (hz:vs.length<=1000000):Calls prog 41 #[.pointer (some ⟨h.b,0,none⟩), .slice B vs.length c] w fun e w'=>e= .returned (.int .i64 (Mu vs))/\Below w.heap.size w w':=by
 have SS:=Ab (Sy.nil w [])
 have HH:=Ab H
 clear H
 have HR:=Ab hR
 have HZ:=Ab hz
 clear hR hz
 go_enter func41,ntmps41
 go_wp2_with (first|go_skip|((with_reducible show wpList ..);(refine rd rfl (Bp 44 40 underlying44 rfl rfl) ?_)))
 go_loopg [9] vs.length (fun gm s9 wr=> ∃i:Nat,s9= .int .i64 (i:Nat)/\i<=vs.length/\vs.length - i<=gm/\Hid (∀j v,j<i->vs[j]? =some v->Yn v=true)/\Hid (Sy w wr [] []))
 case atStart=>exact⟨0,rfl,by omega,by omega,Ab (fun j v hj=>by omega),SS⟩
 case round=>
  clear SS
  obtain⟨i,rfl,hil,hgm,HD,SS⟩:=hrel
  by_cases hlt:i<vs.length
  ·have dlt:decide ((i:Int)<(vs.length:Int))=true:=decide_eq_true (by omega)
   have hw1:IntKind.i64.wrap ((i:Int)+1)=(i:Int)+1:=by have:=Aa HZ;rw[IntKind.wrap_i64];omega
   obtain⟨v,hv⟩: ∃v,vs[i]? =some v:=⟨_,List.getElem?_eq_getElem hlt⟩
   obtain⟨b,off,hA,hb,hrg⟩:=(Aa HR) i v hv
   subst hA
   have HA2:Hid (∀X,Below w.heap.size w X->X.rangeAt b (off+i * 5) v.cs):=Ab (fun X hX=>Jj hrg hb hX)
   have HLT:=Ab hlt
   clear hb hrg hlt hil
   by_cases hk:v.k=7
   ·have HFA:Hid (vs.all (Yn)=false):=Ab (Ur hv (by unfold Yn;simp[hk]))
    go_wp2_with (first|go_skip|((with_reducible show wpList ..);first|(refine rd rfl (Bw 44 5 i Zy ZaF rfl rfl rfl (Aa HLT)) ?_)|(refine rd rfl (Br (vs:=v.cs) 40 5 rwV szV rfl rfl (Aa HA2 _ (Aa SS).fr.below) rfl) ?_)|(refine zA 40 (Aq.cs) rfl SS ?_;clear SS;intro X3 B3 SS;simp only[nn])|(refine zS (v.cs) 0 40 rfl rfl rfl rfl (Gh v) szV SS rfl ?_;clear SS;intro X4 SS;simp only[nn])|(refine rd rfl (Ad 3 isAgg3 rfl rfl ((Aa SS).hold 0 rfl) rfl) ?_)|(refine rd rfl (Mo rfl rfl rfl hk) ?_)))
    refine(ZdL h v.i _ ((Aa HH).on (Aa SS).fr.below) hl).mono ?_
    rintro e X5 ⟨rfl,rfl⟩
    go_wp2
    go_ret
    exact⟨by unfold Mu;rw[Aa HFA];rfl,(Aa SS).fr.below⟩
   ·have HD2:Hid (∀j u,j<i+1->vs[j]? =some u->Yn u=true):=Ab (fun j u hj hu=>by
     rcases Nat.lt_or_ge j i with h|h
     ·exact Aa HD j u h hu
     ·obtain rfl:j=i:=by omega
      obtain rfl:v=u:=Option.some.inj (hv.symm.trans hu)
      exact(by unfold Yn;simp[hk]))
    clear HD
    go_wp2_with (first|go_skip|((with_reducible show wpList ..);first|(refine rd rfl (Bw 44 5 i Zy ZaF rfl rfl rfl (Aa HLT)) ?_)|(refine rd rfl (Br (vs:=v.cs) 40 5 rwV szV rfl rfl (Aa HA2 _ (Aa SS).fr.below) rfl) ?_)|(refine zA 40 (Aq.cs) rfl SS ?_;clear SS;intro X3 B3 SS;simp only[nn])|(refine zS (v.cs) 0 40 rfl rfl rfl rfl (Gh v) szV SS rfl ?_;clear SS;intro X4 SS;simp only[nn])|(refine rd rfl (Ad 3 isAgg3 rfl rfl ((Aa SS).hold 0 rfl) rfl) ?_)|(refine rd rfl (Ma rfl rfl rfl hk) ?_)))
    replace SS:=Ab (Sy.left (L:= []) (M:= [_]) (Aa SS))
    go_wp2
    go_roundg (vs.length - (i+1))
    case measure=>have:=Aa HLT;omega
    case rel=>exact⟨i+1,by go_num,by have:=Aa HLT;omega,by omega,HD2,SS⟩
  ·obtain rfl:i=vs.length:=by omega
   have HTA:Hid (vs.all (Yn)=true):=Ab (Yl (fun j v hj hv=>Aa HD j v hj hv))
   clear hlt hil HD
   go_wp2_with (go_skip)
   go_ret
   exact⟨by unfold Mu;rw[Aa HTA];rfl,(Aa SS).fr.below⟩
