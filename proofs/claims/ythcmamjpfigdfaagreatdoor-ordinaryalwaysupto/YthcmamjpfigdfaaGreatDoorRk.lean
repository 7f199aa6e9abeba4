import Derived.Test.YthcmamjpfigdfaaGreatDoorRj
import Derived.Test.YthcmamjpfigdfaaGreatDoorRi
set_option linter.all false
namespace Go.Proofs.YthcmamjpfigdfaaGreatDoor
set_option maxRecDepth 100000
set_option maxHeartbeats 0
section
open Go Go.Proofs Go.Maps Go.RowKit FM Tryz
attribute [local go_sem] Am Al Ar Ah Ao Ai Au Dg Df Bh Ak Az
def veqV (a b:VV):Bool:=decide (a.k=b.k) && (decide (a.b=b.b) && ((FloatKind.f64.format.order a.x b.x==some .eq) && (decide (a.s.toList=b.s.toList) && decide (a.i=b.i))))
theorem eqlV (a b:VV) (w:World):(binOp .eql 40 a.agg b.agg).run prog w= .ok (.bool (veqV a b)) w:=by
 unfold VV.agg veqV
 have ht:prog.underlying 40=some (.struct (prog.fieldsOf 40)):=by kernel_rfl
 have hf:prog.fieldsOf 40=(match prog.underlying 40 with|some (.struct f)=>f|_=> #[]):=by kernel_rfl
 rw[run_eql_struct,show (10000:Nat)=9998+1+1 from rfl,run_equalIn_struct _ _ _ _ _ ht (by kernel_rfl)]
 rw[hf,underlying40]
 have hc:=Mq (P:=prog) 9998 38 a.x b.x w underlying38
 generalize (FloatKind.f64.format.order a.x b.x==some .eq)=c at *
 simp[Op.eqFields,go_sem,part,hc]
 by_cases h1:a.k=b.k<;>by_cases h2:a.b=b.b<;>cases c<;>by_cases h3:a.s.toList=b.s.toList<;>by_cases h4:a.i=b.i<;>simp[h1,h2,h3,h4]
theorem ex_eqV {o:Oper} {a:Act} {w:World} {x y:Operand} {p q:VV} (ho:o.op= .binOp .eql 40 x y 40) (hx:a.eval x= .agg p.cs.toArray) (hc:a.eval y= .agg q.cs.toArray):(execOp a.eval o).run prog w= .ok (.value (.bool (veqV p q))) w:=by
 have h2:=eqlV p q w
 rw[Bu,Bu] at h2
 unfold execOp
 simp only[ho,hx,hc]
 simp[eqGuard,h2]
def SpP (h:HP) (j:Nat) (q:OB) (v:VV) (h1:HP) (y:Bool):Prop:=h1=h∨(y=true/\h1=h.prot j q v/\q.x=true/\ ∀i:Nat,v.k=7->v.i=(i:Int)+1-> ¬Rch h j i)
theorem Zcu {o:Oper} {a:Act} {w:World} {x y:Operand} {p q:VV} {r:Bool} (ho:o.op= .binOp .eql 40 x y 40) (hx:a.eval x= .agg p.cs.toArray) (hc:a.eval y= .agg q.cs.toArray) (h:veqV p q=r):(execOp a.eval o).run prog w= .ok (.value (.bool r)) w:=h▸ex_eqV ho hx hc
theorem cput_p (q:OB) (v:VV):Bo q.cs 1 v.cs=({q with p:=v}:OB).cs:=by simp[Bo,OB.cs,VV.cs]
theorem Zca (h:HP) (j:Nat) (q:OB) (v:VV) (w:World) (H:h.Is w) (K:h.Wf) (A:h.Ac) (hj:h.l[j]? =some q) (hv:v.k=7->1<=v.i/\v.i<=(h.l.length:Int)):Calls prog 209 #[.agg #[], .pointer (some ⟨h.b,0,none⟩), .int .i64 ((j:Int)+1),v.agg] w fun e w'=> ∃(h1:HP) (y:Bool),e= .returned (.tuple #[.bool y, .nilIface])/\SpP h j q v h1 y/\h.To h1 w w':=by
 obtain⟨z,hve⟩: ∃z,veqV v q.p=z:=⟨_,rfl⟩
 cases z
 ·obtain⟨x,hx⟩: ∃x,q.x=x:=⟨_,rfl⟩
  cases x
  ·have SS:=Ab H.start
   rw[Bu]
   go_enter func209,ntmps209
   go_wp2_with (first|go_skip|((with_reducible show wpList ..);first|((refine bx0 109 (by rfl) rfl rfl (Aa SS) ?_);intro X0 B0 S0;replace SS:=Ab S0;clear S0;simp only[nn])|(refine zB 40 (v.cs) (by rfl) rfl rfl rfl SS ?_;clear SS;intro Xa Ba SS;simp only[nn])))
   refine(Jq h j q _ ((Aa SS).hp 0 rfl) hj K.ok.len).mono ?_
   rintro _ _ ⟨rfl,rfl⟩
   go_wp2
   have hS:Sy w _ h.blocks [hpO h,Aq Ba v.cs]:=(Aa SS).drew
   clear SS
   refine wp_region_held_drew (P:=prog) (S:=fun X=>Sy w X h.blocks _) (by kernel_rfl) (hS) (fun hS0=> ?_)
   refine gq 0 (some 14) (.agg v.cs.toArray) rfl rfl (fun X hX=>Af (vs:=v.cs) 40 5 rwV szV rfl rfl (hX.hold 1 rfl) rfl rfl) (hS) ?_
   refine gp 1 (some 15) (.pointer (some ⟨q.b,0,none⟩)) rfl rfl (hS) ?_
   refine gp 2 (some 16) (.pointer (some ⟨q.b,0,none⟩)) rfl rfl (hS) ?_
   refine gp 3 (some 17) (.pointer (some ⟨q.b,1,none⟩)) rfl rfl (hS) ?_
   refine gq 4 (some 18) (.agg q.p.cs.toArray) rfl rfl (fun X hX=>Af (vs:=q.p.cs) 40 5 rwV szV rfl rfl ((hX.hp 0 rfl).ob hj).1 rfl rfl) (hS) ?_
   refine gq 5 (some 19) (.bool false) rfl rfl (fun X hX=>Zcu rfl rfl rfl hve) (hS) ?_
   refine dn ?_
   try simp only[nn]
   have SS:=Ab hS
   have HO:=Ab (((Aa SS).hp 0 rfl).ob hj).1
   skip
   go_wp2_with (first|go_skip|((with_reducible show wpList ..);first|(refine rd rfl (Ad (v:= .bool false) 4 isAgg4 rfl rfl (Aa HO) (by simp[OB.cs,VV.cs,hx])) ?_)))
   go_ret2
   exact⟨h,false,rfl, .inl rfl,HP.To.end H (Aa SS) rfl⟩
  ·have SS:=Ab H.start
   rw[Bu]
   go_enter func209,ntmps209
   go_wp2_with (first|go_skip|((with_reducible show wpList ..);first|((refine bx0 109 (by rfl) rfl rfl (Aa SS) ?_);intro X0 B0 S0;replace SS:=Ab S0;clear S0;simp only[nn])|(refine zB 40 (v.cs) (by rfl) rfl rfl rfl SS ?_;clear SS;intro Xa Ba SS;simp only[nn])))
   refine(Jq h j q _ ((Aa SS).hp 0 rfl) hj K.ok.len).mono ?_
   rintro _ _ ⟨rfl,rfl⟩
   go_wp2
   have hS:Sy w _ h.blocks [hpO h,Aq Ba v.cs]:=(Aa SS).drew
   clear SS
   refine wp_region_held_drew (P:=prog) (S:=fun X=>Sy w X h.blocks _) (by kernel_rfl) (hS) (fun hS0=> ?_)
   refine gq 0 (some 14) (.agg v.cs.toArray) rfl rfl (fun X hX=>Af (vs:=v.cs) 40 5 rwV szV rfl rfl (hX.hold 1 rfl) rfl rfl) (hS) ?_
   refine gp 1 (some 15) (.pointer (some ⟨q.b,0,none⟩)) rfl rfl (hS) ?_
   refine gp 2 (some 16) (.pointer (some ⟨q.b,0,none⟩)) rfl rfl (hS) ?_
   refine gp 3 (some 17) (.pointer (some ⟨q.b,1,none⟩)) rfl rfl (hS) ?_
   refine gq 4 (some 18) (.agg q.p.cs.toArray) rfl rfl (fun X hX=>Af (vs:=q.p.cs) 40 5 rwV szV rfl rfl ((hX.hp 0 rfl).ob hj).1 rfl rfl) (hS) ?_
   refine gq 5 (some 19) (.bool false) rfl rfl (fun X hX=>Zcu rfl rfl rfl hve) (hS) ?_
   refine dn ?_
   try simp only[nn]
   have SS:=Ab hS
   have HO:=Ab (((Aa SS).hp 0 rfl).ob hj).1
   go_wp2_with (first|go_skip|((with_reducible show wpList ..);first|(refine rd rfl (Ad (v:= .bool true) 4 isAgg4 rfl rfl (Aa HO) (by simp[OB.cs,VV.cs,hx])) ?_)|(refine zL (v.cs) 40 5 1 rwV szV (by rfl) rfl rfl SS rfl rfl rfl ?_;simp only[nn])))
   have HC:=leads_h h v j _ ((Aa SS).hp 0 rfl) K A hv
   rw[Bu] at HC
   refine HC.mono ?_
   rintro _ Y ⟨b,rfl,hb,hR⟩
   replace SS:=Ab ((Aa SS).on hb)
   clear hb HC
   cases b
   ·have HR:=Ab (hR rfl)
    clear hR
    go_wp2_with (first|go_skip|((with_reducible show wpList ..);first|(refine zL (v.cs) 40 5 1 rwV szV (by rfl) rfl rfl SS rfl rfl rfl ?_;simp only[nn])|((refine stO (vs:=v.cs) (h.prot j q v) (j:=j) (q:=q) (q':={q with p:=v}) 0 40 (by rfl) rfl rfl rfl rfl (Ea _) szV (Aa SS) rfl hj (by simp[VV.cs]) rfl rfl rfl rfl rfl (cput_p q v) ?_);intro X1 S1;replace SS:=Ab S1;clear S1;simp only[nn])))
    go_ret2
    exact⟨h.prot j q v,true,rfl, .inr ⟨rfl,rfl,hx,Aa HR⟩,HP.To.end H (Aa SS) rfl⟩
   ·go_wp2
    go_ret2
    exact⟨h,false,rfl, .inl rfl,HP.To.end H (Aa SS) rfl⟩
 ·have SS:=Ab H.start
  rw[Bu]
  go_enter func209,ntmps209
  go_wp2_with (first|go_skip|((with_reducible show wpList ..);first|((refine bx0 109 (by rfl) rfl rfl (Aa SS) ?_);intro X0 B0 S0;replace SS:=Ab S0;clear S0;simp only[nn])|(refine zB 40 (v.cs) (by rfl) rfl rfl rfl SS ?_;clear SS;intro Xa Ba SS;simp only[nn])))
  refine(Jq h j q _ ((Aa SS).hp 0 rfl) hj K.ok.len).mono ?_
  rintro _ _ ⟨rfl,rfl⟩
  go_wp2
  have hS:Sy w _ h.blocks [hpO h,Aq Ba v.cs]:=(Aa SS).drew
  clear SS
  refine wp_region_held_drew (P:=prog) (S:=fun X=>Sy w X h.blocks _) (by kernel_rfl) (hS) (fun hS0=> ?_)
  refine gq 0 (some 14) (.agg v.cs.toArray) rfl rfl (fun X hX=>Af (vs:=v.cs) 40 5 rwV szV rfl rfl (hX.hold 1 rfl) rfl rfl) (hS) ?_
  refine gp 1 (some 15) (.pointer (some ⟨q.b,0,none⟩)) rfl rfl (hS) ?_
  refine gp 2 (some 16) (.pointer (some ⟨q.b,0,none⟩)) rfl rfl (hS) ?_
  refine gp 3 (some 17) (.pointer (some ⟨q.b,1,none⟩)) rfl rfl (hS) ?_
  refine gq 4 (some 18) (.agg q.p.cs.toArray) rfl rfl (fun X hX=>Af (vs:=q.p.cs) 40 5 rwV szV rfl rfl ((hX.hp 0 rfl).ob hj).1 rfl rfl) (hS) ?_
  refine gq 5 (some 19) (.bool true) rfl rfl (fun X hX=>Zcu rfl rfl rfl hve) (hS) ?_
  refine dn ?_
  try simp only[nn]
  have SS:=Ab hS
  go_wp2
  go_ret2
  exact⟨h,true,rfl, .inl rfl,HP.To.end H (Aa SS) rfl⟩
end
section
open Go Go.Proofs Go.Maps Go.RowKit FM
structure HP.Gd (h:HP) (N:Nat):Prop where
 wf:h.Wf
 ac:h.Ac
 few:h.Few N
 cap:h.cap<=65536
 room:(h.l.length:Int)<=h.cap
theorem Ze7 {v a:VV} (h1:v.k≠7) (h2:a.k≠7):(orV v a).k≠7:=by
 unfold orV
 split<;>assumption
theorem und_k:Dh.k≠7:=by decide
theorem Mz:Av.k≠7:=by decide
theorem fill_k {d:DD} (hg:d.g.k≠7) (hs:d.s.k≠7):(Js d).g.k≠7/\(Js d).s.k≠7:=by
 unfold Js
 split
 ·exact⟨Ze7 hg und_k,Ze7 hs und_k⟩
 ·exact⟨hg,hs⟩
theorem app_k (x:Bool) {n d:DD} (hn:n.g.k≠7/\n.s.k≠7) (hg:d.g.k≠7) (hs:d.s.k≠7):(Dl x n d).g.k≠7/\(Dl x n d).s.k≠7:=by
 unfold Dl
 split
 ·exact⟨Mz,Mz⟩
 split
 ·split
  ·exact fill_k hg hs
  ·exact⟨Mz,Mz⟩
 split
 ·exact hn
 unfold Ke
 split
 ·exact fill_k hg hs
 ·exact⟨Ze7 hg hn.1,Ze7 hs hn.2⟩
theorem ZfJ {x:Bool} {n d:DD} (hF:FD n) (hk:n.g.k≠7/\n.s.k≠7) (hd:FD d) (hg:d.g.k≠7) (hs:d.s.k≠7) (hb:Nj x n d=true):OkD (Dl x n d):=
 ⟨fd_app x hF hd,(Za2 hb).2.1.whole,app_k x hk hg hs⟩
theorem get_k {h:HP} (K:h.Wf) {j:Nat} {q:OB} (hj:h.l[j]? =some q) (k:KK):(getD q.T k).g.k≠7/\(getD q.T k).s.k≠7:=by
 cases hf:q.T.find k with
 |none=>
  unfold getD
  rw[hf]
  exact⟨Mz,Mz⟩
 |some r=>exact(Zco K hj hf).2.2
theorem Ze2 {l:List (KK×DD)} {k:KK} {d:DD} {e:KK×DD} (h:e∈Oh l k d):e.2=d∨e∈l:=by
 unfold Oh at h
 split at h
 ·obtain⟨x,hx,rfl⟩:=List.mem_map.1 h
  split
  ·exact .inl rfl
  ·exact .inr hx
 ·rcases List.mem_append.1 h with h|h
  ·exact .inr h
  ·rw[List.mem_singleton.1 h]
   exact .inl rfl
theorem ZeI {h:HP} {j i:Nat} {q' r:OB} (hi:(h.l.set j q')[i]? =some r):(i=j/\r=q')∨(i≠j/\h.l[i]? =some r):=by
 by_cases e:j=i
 ·subst e
  have hlt:j<h.l.length:=by have:=(List.getElem?_eq_some_iff.1 hi).1;simpa using this
  rw[List.getElem?_set_self hlt] at hi
  exact .inl ⟨rfl,(Option.some.inj hi).symm⟩
 ·rw[List.getElem?_set_ne e] at hi
  exact .inr ⟨fun e2=>e e2.symm,hi⟩
theorem Zd8 {h:HP} {N M:Nat} (G:h.Gd N) {j:Nat} {q q':OB} (hj:h.l[j]? =some q) (hw:OB.Wf h.l.length q') (hl:q'.T.last<=M) (hM:N<=M) (hA:({h with l:=h.l.set j q'}:HP).Ac):({h with l:=h.l.set j q'}:HP).Gd M:=by
 have hlen:(h.l.set j q').length=h.l.length:=List.length_set
 refine⟨⟨⟨by show (h.l.set j q').length<=_;rw[hlen];exact G.wf.ok.len,G.wf.ok.f0,G.wf.ok.f1,G.wf.ok.e0,G.wf.ok.e1,G.wf.ok.d1⟩,fun i r hi=> ?_⟩,hA,fun i r hi=> ?_,G.cap,by show ((h.l.set j q').length:Int)<=_;rw[hlen];exact G.room⟩
 ·show OB.Wf (h.l.set j q').length r
  rw[hlen]
  rcases ZeI (h:=h) hi with ⟨-,rfl⟩|⟨-,hi⟩
  ·exact hw
  ·exact G.wf.ob i r hi
 ·rcases ZeI (h:=h) hi with ⟨-,rfl⟩|⟨-,hi⟩
  ·exact hl
  ·exact Nat.le_trans (G.few i r hi) hM
theorem Zfj {h:HP} (A:h.Ac) {j:Nat} {q q':OB} (hj:h.l[j]? =some q) (hp:q'.p=q.p):({h with l:=h.l.set j q'}:HP).Ac:=A.same (fun i r hi=>by
 rcases ZeI (h:=h) hi with ⟨rfl,rfl⟩|⟨-,hi⟩
 ·exact⟨q,hj,hp.symm⟩
 ·exact⟨r,hi,rfl⟩)
theorem ZdM {h:HP} {N M:Nat} (G:h.Gd N) {j:Nat} {q:OB} (hj:h.l[j]? =some q) {T':TT} (hp: ∀e∈pr T',OkD e.2) (hl:T'.last<=M) (hM:N<=M):(h.tab j q T').Gd M:=by
 have K:=G.wf.ob j q hj
 exact Zd8 G hj (q':={q with T:=T'}) ⟨K.c,K.px,K.pk,K.pi,hp⟩ hl hM (Zfj G.ac hj rfl)
theorem shut_gd {h:HP} {N:Nat} (G:h.Gd N) {j:Nat} {q:OB} (hj:h.l[j]? =some q):(h.shut j q).Gd N:=by
 have K:=G.wf.ob j q hj
 exact Zd8 G hj (q':={q with x:=false}) ⟨K.c,K.px,K.pk,K.pi,K.ps⟩ (G.few j q hj) (Nat.le_refl _) (Zfj G.ac hj rfl)
theorem prot_gd {h:HP} {N:Nat} (G:h.Gd N) {j:Nat} {q:OB} (hj:h.l[j]? =some q) {v:VV} (hx:v.x<2^64) (hk:v.k=2∨v.k=7) (hi:v.k=7->1<=v.i/\v.i<=(h.l.length:Int)) (hR: ∀i:Nat,v.k=7->v.i=(i:Int)+1-> ¬Rch h j i):(h.prot j q v).Gd N:=by
 have K:=G.wf.ob j q hj
 exact Zd8 G hj (q':={q with p:=v}) ⟨K.c,hx,hk,hi,K.ps⟩ (G.few j q hj) (Nat.le_refl _) (G.ac.prot hj v hR)
theorem HP.Gd.mono {h:HP} {N M:Nat} (G:h.Gd N) (hM:N<=M):h.Gd M:=⟨G.wf,G.ac,fun j q hj=>Nat.le_trans (G.few j q hj) hM,G.cap,G.room⟩
theorem Po {h h1:HP} {N:Nat} (G:h.Gd N) (L:Low h h1):h1.Gd N:=⟨L.wf G.wf,G.ac.low L,L.few G.few,by rw[L.eq];exact G.cap,by rw[L.eq];exact G.room⟩
structure Stp (h h1:HP):Prop where
 len:h1.l.length=h.l.length
 cap:h1.cap=h.cap
 depth:h1.depth=h.depth
 ent:h1.ent=h.ent
 lt:WhH h->WhH h1/\LtH h.abs h1.abs
def LtB (h h1:HP):Prop:=WhH h->WhH h1/\LtH h.abs h1.abs
theorem LtB.refl (h:HP):LtB h h:=fun hw=>⟨hw,LtH.refl hw⟩
theorem LtB.trans {h h1 h2:HP} (A:LtB h h1) (B:LtB h1 h2):LtB h h2:=fun hw=>⟨(B (A hw).1).1,(A hw).2.trans (B (A hw).1).2⟩
theorem Stp.refl (h:HP):Stp h h:=⟨rfl,rfl,rfl,rfl,fun hw=>⟨hw,LtH.refl hw⟩⟩
theorem Low.stp {h h1:HP} (L:Low h h1):Stp h h1:=by
 rw[L.eq]
 exact⟨rfl,rfl,rfl,rfl,fun hw=>⟨hw,LtH.refl hw⟩⟩
theorem ZbS {h:HP} {j:Nat} {q:OB} (hj:h.l[j]? =some q) (T':TT) (hk:WhO h.l.length q.po->WhO h.l.length ({q with T:=T'}:OB).po/\LtO q.po ({q with T:=T'}:OB).po):Stp h (h.tab j q T'):=⟨List.length_set,rfl,rfl,rfl,ZdR hj hk⟩
theorem def_lt {n:Nat} {q:OB} {k:KK} {d:DD} {T':TT} (hgk:goodK k=true) (hv:Ov n d.v) (hb:Nj q.x (getD q.T k) d=true) (hp:pr T'=Oh (pr q.T) k (Dl q.x (getD q.T k) d)) (hw:WhO n q.po):WhO n ({q with T:=T'}:OB).po/\LtO q.po ({q with T:=T'}:OB).po:=by
 rw[Zb6] at hb hp
 have h1:=lt_def (a:=q.po) hw.2 (k:=k) (d:=d) hgk hv hb
 show (q.p.good=true/\WhP n (pr T'))/\LtO q.po ⟨q.c,q.p,q.x,pr T'⟩
 rw[hp]
 exact⟨⟨hw.1,h1.1⟩,h1.2⟩
theorem del_lt {n:Nat} {q:OB} {k:KK} {T':TT} (hc:(getD q.T k).c≠1) (hp:pr T'=Ue (pr q.T) k) (hw:WhO n q.po):WhO n ({q with T:=T'}:OB).po/\LtO q.po ({q with T:=T'}:OB).po:=by
 rw[Zb6] at hc
 have h1:=lt_del (a:=q.po) hw.2 (k:=k) hc
 show (q.p.good=true/\WhP n (pr T'))/\LtO q.po ⟨q.c,q.p,q.x,pr T'⟩
 rw[hp]
 exact⟨⟨hw.1,h1.1⟩,h1.2⟩
theorem Stp.trans {h h1 h2:HP} (A:Stp h h1) (B:Stp h1 h2):Stp h h2:=⟨B.len.trans A.len,B.cap.trans A.cap,B.depth.trans A.depth,B.ent.trans A.ent,fun hw=>⟨(B.lt (A.lt hw).1).1,(A.lt hw).2.trans (B.lt (A.lt hw).1).2⟩⟩
theorem DefE.gd {h:HP} {N:Nat} {j:Nat} {q:OB} {k:KK} {d:DD} {h1:HP} {y:Bool} {er:Value} (G:h.Gd N) (hj:h.l[j]? =some q) (hd:FD d) (hg:d.g.k≠7) (hs:d.s.k≠7) (hgk:goodK k=true) (hv:Ov h.l.length d.v) (D:DefE h j q k d h1 y er):h1.Gd (N+1)/\Stp h h1:=by
 rcases D with ⟨-,L, -⟩|⟨-, -,hb,T',L,hl,hp⟩
 ·exact⟨(Po G L).mono (Nat.le_succ _),L.stp⟩
 ·have hO:=ZfJ (Zcq G.wf hj k) (get_k G.wf hj k) hd hg hs hb
  have h2:(h.tab j q T').Gd (N+1):=ZdM G hj (fun e he=>by
   rw[hp] at he
   rcases Ze2 he with h3|h3
   ·rw[h3];exact hO
   ·exact(G.wf.ob j q hj).ps e h3) (by have:=G.few j q hj;omega) (Nat.le_succ _)
  exact⟨Po h2 L,(ZbS hj T' (def_lt hgk hv hb hp)).trans L.stp⟩
theorem WriP.gd {h:HP} {N:Nat} {j:Nat} {q:OB} {k:KK} {v:VV} {h1:HP} {y:Bool} {er:Value} (G:h.Gd N) (hj:h.l[j]? =some q) (hv:v.x<2^64) (hgk:goodK k=true) (hov:Ov h.l.length v) (D:WriP h j q k v h1 y er):h1.Gd (N+1)/\Stp h h1:=by
 rcases D with ⟨-,L, -⟩|⟨-, -,d,T',hd,hb,L,hl,hp⟩
 ·exact⟨(Po G L).mono (Nat.le_succ _),L.stp⟩
 ·have hF:FD d/\d.g.k≠7/\d.s.k≠7/\Ov h.l.length d.v:=by
   rcases hd with ⟨rfl, -⟩|⟨rfl, -⟩
   ·exact⟨ZcH hv,Mz,Mz,hov⟩
   ·exact⟨FD_val hv,Mz,Mz,hov⟩
  exact DefE.gd (er:= .nilIface) (y:=true) G hj hF.1 hF.2.1 hF.2.2.1 hgk hF.2.2.2 (.inr ⟨rfl,rfl,hb,T',L,hl,hp⟩)
theorem SetP.gd {h:HP} {N:Nat} {k:KK} {r v:VV} {h1:HP} {y:Bool} {er:Value} (G:h.Gd N) (hv:v.x<2^64) (hgk:goodK k=true) (hov:Ov h.l.length v) (D:SetP h r k v h1 y er):h1.Gd (N+1)/\Stp h h1:=by
 rcases D with ⟨-,L, -⟩|⟨i,qr, -, -,hq,hW⟩
 ·exact⟨(Po G L).mono (Nat.le_succ _),L.stp⟩
 ·exact hW.gd G hq hv hgk hov
theorem proto_en (h:HP) (j:Nat) (q:OB) (w:World) (H:h.Is w) (N:Nat) (G:h.Gd N) (hj:h.l[j]? =some q):Calls Tryz.prog 118 #[.pointer (some ⟨h.b,0,none⟩), .int .i64 ((j:Int)+1)] w fun e w'=> ∃(h1:HP) (V:VV) (er:Value),e= .returned (.tuple #[V.agg,er])/\((Low h h1/\True)/\Gw h h1 er)/\h.To h1 w w':=by
 have K:=G.wf
 by_cases h0:h.fuel=0
 ·refine(Ua h j  w H h0).mono ?_
  rintro _ Y ⟨rfl,T⟩
  exact⟨h,Av,Bl 1,rfl,⟨⟨Low.refl K.ok,trivial⟩, .inr (.inl rfl),fun _=>⟨rfl,rfl⟩,fun h1=>absurd h0 h1⟩,T⟩
 by_cases hd:h.ent=h.depth
 ·refine(Rz h j  w H K.ok h0 hd).mono ?_
  rintro _ Y ⟨rfl,T⟩
  exact⟨h.less,Av,Bl 2,rfl,⟨⟨Dy K.ok h0,trivial⟩, .inr (.inr rfl),fun h1=>absurd h1 h0,fun _=>by show h.fuel - 1<h.fuel;omega⟩,T⟩
 ·have hp:=K.ok.f0
  refine(Ry h j q  (fun h1 V er=>er= .nilIface/\(h1=h.inn/\True)) w H K.ok hj h0 hd (fun X TX=> ?_)).mono ?_
  ·refine(Zf7 h.inn j q X TX.is K.ok.len hj).mono ?_
   rintro e Y ⟨rfl,hb⟩
   exact⟨h.inn,_,_,rfl,⟨rfl,rfl,trivial⟩,rfl,HP.To.refl TX.is hb⟩
  ·rintro e Y ⟨h1,V,er,rfl,⟨rfl,hQ⟩,T⟩
   obtain⟨rfl,hx⟩:=hQ
   rw[Kj] at T
   exact⟨h.less,V, .nilIface,rfl,⟨⟨Dy K.ok h0,hx⟩, .inl rfl,fun h1=>absurd h1 h0,fun _=>by show h.fuel - 1<h.fuel;omega⟩,T⟩
theorem ext_en (h:HP) (j:Nat) (q:OB) (w:World) (H:h.Is w) (N:Nat) (G:h.Gd N) (hj:h.l[j]? =some q):Calls Tryz.prog 120 #[.pointer (some ⟨h.b,0,none⟩), .int .i64 ((j:Int)+1)] w fun e w'=> ∃(h1:HP) (y:Bool) (er:Value),e= .returned (.tuple #[.bool y,er])/\((Low h h1/\True)/\Gw h h1 er)/\h.To h1 w w':=by
 have K:=G.wf
 by_cases h0:h.fuel=0
 ·refine(Yp h j  w H h0).mono ?_
  rintro _ Y ⟨rfl,T⟩
  exact⟨h,false,Bl 1,rfl,⟨⟨Low.refl K.ok,trivial⟩, .inr (.inl rfl),fun _=>⟨rfl,rfl⟩,fun h1=>absurd h0 h1⟩,T⟩
 by_cases hd:h.ent=h.depth
 ·refine(Yo h j  w H K.ok h0 hd).mono ?_
  rintro _ Y ⟨rfl,T⟩
  exact⟨h.less,false,Bl 2,rfl,⟨⟨Dy K.ok h0,trivial⟩, .inr (.inr rfl),fun h1=>absurd h1 h0,fun _=>by show h.fuel - 1<h.fuel;omega⟩,T⟩
 ·have hp:=K.ok.f0
  refine(Yn h j q  (fun h1 y er=>er= .nilIface/\(h1=h.inn/\True)) w H K.ok hj h0 hd (fun X TX=> ?_)).mono ?_
  ·refine(ord_ext h.inn j q X TX.is K.ok.len hj).mono ?_
   rintro e Y ⟨rfl,hb⟩
   exact⟨h.inn,_,_,rfl,⟨rfl,rfl,trivial⟩,rfl,HP.To.refl TX.is hb⟩
  ·rintro e Y ⟨h1,y,er,rfl,⟨rfl,hQ⟩,T⟩
   obtain⟨rfl,hx⟩:=hQ
   rw[Kj] at T
   exact⟨h.less,y, .nilIface,rfl,⟨⟨Dy K.ok h0,hx⟩, .inl rfl,fun h1=>absurd h1 h0,fun _=>by show h.fuel - 1<h.fuel;omega⟩,T⟩
theorem Yd {T:TT} {W:World} (h:T.Is W):T.live.length<=T.last:=by
 have h1:T.live.length<=T.rows.length:=List.length_filter_le _ _
 have h2:=h.rise
 have h3:=h.num
 clear h
 have key: ∀(l:List RR) (m:Nat),l.Pairwise (fun a b=>a.n<b.n)->(∀r∈l,m<r.n/\r.n<=T.last)->l.length+m<=T.last∨l= []:=by
  intro l
  induction l with
  |nil=>exact fun m _ _=> .inr rfl
  |cons a l ih=>
   intro m hp hn
   left
   rw[List.pairwise_cons] at hp
   rcases ih a.n hp.2 (fun r hr=>⟨hp.1 r hr,(hn r (List.mem_cons_of_mem _ hr)).2⟩) with h|h
   ·have:=(hn a (List.mem_cons_self ..)).1
    simp only[List.length_cons]
    omega
   ·subst h
    have:=hn a (List.mem_cons_self ..)
    simp only[List.length_cons,List.length_nil]
    omega
 rcases key T.rows 0 h2 (fun r hr=>⟨(h3 r hr).1,(h3 r hr).2⟩) with h|h
 ·omega
 ·rw[h] at h1
  simp at h1
  rw[h1]
  exact Nat.zero_le _
theorem sl_form {w:World} {b:Nat} {v:Value} {l:List KK} (h:OwnK w b v l): ∃A n c,v= .slice A n c:=by
 obtain⟨A,c,e⟩:=Gl h
 exact⟨A,_,c,e⟩
theorem keys_en (h:HP) (j:Nat) (q:OB) (w:World) (H:h.Is w) (N:Nat) (G:h.Gd N) (hj:h.l[j]? =some q) (hN:N<=90000) (hT:Tabs w):Calls Tryz.prog 125 #[.pointer (some ⟨h.b,0,none⟩), .int .i64 ((j:Int)+1)] w fun e w'=> ∃(h1:HP) (V:Value) (er:Value),e= .returned (.tuple #[V,er])/\((Low h h1/\(∃A n c,V= .slice A n c))/\Gw h h1 er)/\h.To h1 w w':=by
 have K:=G.wf
 by_cases h0:h.fuel=0
 ·refine(Ra h j  w H h0).mono ?_
  rintro _ Y ⟨rfl,T⟩
  exact⟨h, .slice none 0 0,Bl 1,rfl,⟨⟨Low.refl K.ok,_,_,_,rfl⟩, .inr (.inl rfl),fun _=>⟨rfl,rfl⟩,fun h1=>absurd h0 h1⟩,T⟩
 by_cases hd:h.ent=h.depth
 ·refine(Qz h j  w H K.ok h0 hd).mono ?_
  rintro _ Y ⟨rfl,T⟩
  exact⟨h.less, .slice none 0 0,Bl 2,rfl,⟨⟨Dy K.ok h0,_,_,_,rfl⟩, .inr (.inr rfl),fun h1=>absurd h1 h0,fun _=>by show h.fuel - 1<h.fuel;omega⟩,T⟩
 ·have hp:=K.ok.f0
  refine(Qy h j q  (fun h1 V er=>er= .nilIface/\(h1=h.inn/\(∃A n c,V= .slice A n c))) w H K.ok hj h0 hd (fun X TX=> ?_)).mono ?_
  ·refine(ord_keys h.inn j q X TX.is K.ok.len hj (TX.tabs H hT) (by have:=G.few j q hj;omega) (by have:=Yd (TX.is.ob hj).2.1;have:=G.few j q hj;omega)).mono ?_
   rintro e Y ⟨v,l9,rfl,hO,hb⟩
   exact⟨h.inn,_,_,rfl,⟨rfl,rfl,sl_form hO⟩,rfl,HP.To.refl TX.is hb⟩
  ·rintro e Y ⟨h1,V,er,rfl,⟨rfl,hQ⟩,T⟩
   obtain⟨rfl,hx⟩:=hQ
   rw[Kj] at T
   exact⟨h.less,V, .nilIface,rfl,⟨⟨Dy K.ok h0,hx⟩, .inl rfl,fun h1=>absurd h1 h0,fun _=>by show h.fuel - 1<h.fuel;omega⟩,T⟩
theorem prev_en (h:HP) (j:Nat) (q:OB) (w:World) (H:h.Is w) (N:Nat) (G:h.Gd N) (hj:h.l[j]? =some q):Calls Tryz.prog 121 #[.pointer (some ⟨h.b,0,none⟩), .int .i64 ((j:Int)+1)] w fun e w'=> ∃(h1:HP) (y:Bool) (er:Value),e= .returned (.tuple #[.bool y,er])/\((((y=false/\Low h h1)∨(y=true/\er= .nilIface/\Low (h.shut j q) h1)))/\Gw h h1 er)/\h.To h1 w w':=by
 have K:=G.wf
 by_cases h0:h.fuel=0
 ·refine(Pc h j  w H h0).mono ?_
  rintro _ Y ⟨rfl,T⟩
  exact⟨h,false,Bl 1,rfl,⟨.inl ⟨rfl,Low.refl K.ok⟩, .inr (.inl rfl),fun _=>⟨rfl,rfl⟩,fun h1=>absurd h0 h1⟩,T⟩
 by_cases hd:h.ent=h.depth
 ·refine(Pb h j  w H K.ok h0 hd).mono ?_
  rintro _ Y ⟨rfl,T⟩
  exact⟨h.less,false,Bl 2,rfl,⟨.inl ⟨rfl,Dy K.ok h0⟩, .inr (.inr rfl),fun h1=>absurd h1 h0,fun _=>by show h.fuel - 1<h.fuel;omega⟩,T⟩
 ·have hp:=K.ok.f0
  refine(Pa h j q  (fun h1 y er=>er= .nilIface/\(h1=h.inn.shut j q/\y=true)) w H K.ok hj h0 hd (fun X TX=> ?_)).mono ?_
  ·refine(Zc8 h.inn j q X TX.is K.ok.len hj).mono ?_
   rintro e Y ⟨rfl,T⟩
   exact⟨_,_,_,rfl,⟨rfl,rfl,rfl⟩,rfl,T⟩
  ·rintro e Y ⟨h1,y,er,rfl,⟨rfl,hQ⟩,T⟩
   obtain⟨rfl,rfl⟩:=hQ
   exact⟨_,true, .nilIface,rfl,⟨.inr ⟨rfl,rfl,⟨by unfold HP.out HP.inn HP.shut;simp,by show h.fuel - 1<=h.fuel;omega,by show 0<=h.fuel - 1;omega⟩⟩, .inl rfl,fun h1=>absurd h1 h0,fun _=>by show h.fuel - 1<h.fuel;omega⟩,T⟩
theorem del_en (h:HP) (j:Nat) (q:OB) (k:KK) (w:World) (H:h.Is w) (N:Nat) (G:h.Gd N) (hj:h.l[j]? =some q) (hN:N<=90000) (hk:OkK k):Calls Tryz.prog 124 #[.pointer (some ⟨h.b,0,none⟩), .int .i64 ((j:Int)+1),k.agg] w fun e w'=> ∃(h1:HP) (y:Bool) (er:Value),e= .returned (.tuple #[.bool y,er])/\((((y=false/\Low h h1)∨(er= .nilIface/\((y=true/\Low h h1)∨(y=true/\ ∃T':TT,(getD q.T k).c≠1/\Low (h.tab j q T') h1/\T'.last=q.T.last/\pr T'=Ue (pr q.T) k)))))/\Gw h h1 er)/\h.To h1 w w':=by
 have K:=G.wf
 by_cases h0:h.fuel=0
 ·refine(Zex h j k w H h0).mono ?_
  rintro _ Y ⟨rfl,T⟩
  exact⟨h,false,Bl 1,rfl,⟨.inl ⟨rfl,Low.refl K.ok⟩, .inr (.inl rfl),fun _=>⟨rfl,rfl⟩,fun h1=>absurd h0 h1⟩,T⟩
 by_cases hd:h.ent=h.depth
 ·refine(Zew h j k w H K.ok h0 hd).mono ?_
  rintro _ Y ⟨rfl,T⟩
  exact⟨h.less,false,Bl 2,rfl,⟨.inl ⟨rfl,Dy K.ok h0⟩, .inr (.inr rfl),fun h1=>absurd h1 h0,fun _=>by show h.fuel - 1<h.fuel;omega⟩,T⟩
 ·have hp:=K.ok.f0
  refine(Zev h j q k (fun h1 y er=>er= .nilIface/\(DelP h.inn j q k h1 y)) w H K.ok hj h0 hd (fun X TX=> ?_)).mono ?_
  ·refine(Zd6 h.inn j q k X TX.is K.ok.len hj hk (by have:=G.few j q hj;omega)).mono ?_
   rintro e Y ⟨h1,y,rfl,hD,T⟩
   refine⟨h1,y, .nilIface,rfl,⟨rfl,hD⟩, ?_,T⟩
   rcases hD with ⟨-,rfl, -⟩|⟨-, -,rfl, -⟩|⟨-, -, -,T',rfl, -⟩<;>rfl
  ·rintro e Y ⟨h1,y,er,rfl,⟨rfl,hQ⟩,T⟩
   rcases hQ with ⟨-,rfl,rfl⟩|⟨-, -,rfl,rfl⟩|⟨-,hc1,rfl,T',rfl,hl,hp⟩
   ·rw[Kj] at T
    exact⟨h.less,true, .nilIface,rfl,⟨.inr ⟨rfl, .inl ⟨rfl,Dy K.ok h0⟩⟩, .inl rfl,fun h1=>absurd h1 h0,fun _=>by show h.fuel - 1<h.fuel;omega⟩,T⟩
   ·rw[Kj] at T
    exact⟨h.less,false, .nilIface,rfl,⟨.inl ⟨rfl,Dy K.ok h0⟩, .inl rfl,fun h1=>absurd h1 h0,fun _=>by show h.fuel - 1<h.fuel;omega⟩,T⟩
   ·exact⟨_,true, .nilIface,rfl,⟨.inr ⟨rfl, .inr ⟨rfl,T',hc1,⟨by unfold HP.out HP.inn HP.tab;simp,by show h.fuel - 1<=h.fuel;omega,by show 0<=h.fuel - 1;omega⟩,hl,hp⟩⟩, .inl rfl,fun h1=>absurd h1 h0,fun _=>by show h.fuel - 1<h.fuel;omega⟩,T⟩
theorem rch_inn {h:HP} {o x:Nat} (hr:Rch h o x):Rch h.inn o x:=by
 induction hr with
 |here=>exact .here
 |step a b c _ ih=>exact .step (h:=h.inn) a b c ih
theorem setp_en (h:HP) (j:Nat) (q:OB) (v:VV) (w:World) (H:h.Is w) (N:Nat) (G:h.Gd N) (hj:h.l[j]? =some q) (hv:v.k=7->1<=v.i/\v.i<=(h.l.length:Int)):Calls Tryz.prog 119 #[.pointer (some ⟨h.b,0,none⟩), .int .i64 ((j:Int)+1),v.agg] w fun e w'=> ∃(h1:HP) (y:Bool) (er:Value),e= .returned (.tuple #[.bool y,er])/\((((y=false/\Low h h1)∨(er= .nilIface/\(Low h h1∨(y=true/\Low (h.prot j q v) h1/\q.x=true/\ ∀i:Nat,v.k=7->v.i=(i:Int)+1-> ¬Rch h j i)))))/\Gw h h1 er)/\h.To h1 w w':=by
 have K:=G.wf
 by_cases h0:h.fuel=0
 ·refine(Rx h j v w H h0).mono ?_
  rintro _ Y ⟨rfl,T⟩
  exact⟨h,false,Bl 1,rfl,⟨.inl ⟨rfl,Low.refl K.ok⟩, .inr (.inl rfl),fun _=>⟨rfl,rfl⟩,fun h1=>absurd h0 h1⟩,T⟩
 by_cases hd:h.ent=h.depth
 ·refine(Rw h j v w H K.ok h0 hd).mono ?_
  rintro _ Y ⟨rfl,T⟩
  exact⟨h.less,false,Bl 2,rfl,⟨.inl ⟨rfl,Dy K.ok h0⟩, .inr (.inr rfl),fun h1=>absurd h1 h0,fun _=>by show h.fuel - 1<h.fuel;omega⟩,T⟩
 ·have hp:=K.ok.f0
  refine(Rv h j q v (fun h1 y er=>er= .nilIface/\(SpP h.inn j q v h1 y)) w H K.ok hj h0 hd (fun X TX=> ?_)).mono ?_
  ·refine(Zca h.inn j q v X TX.is (Zcj K h0 hd) G.ac hj hv).mono ?_
   rintro e Y ⟨h1,y,rfl,hD,T⟩
   refine⟨h1,y, .nilIface,rfl,⟨rfl,hD⟩, ?_,T⟩
   rcases hD with rfl|⟨-,rfl, -⟩<;>rfl
  ·rintro e Y ⟨h1,y,er,rfl,⟨rfl,hQ⟩,T⟩
   rcases hQ with rfl|⟨rfl,rfl,hx,hR⟩
   ·rw[Kj] at T
    exact⟨h.less,y, .nilIface,rfl,⟨.inr ⟨rfl, .inl (Dy K.ok h0)⟩, .inl rfl,fun h1=>absurd h1 h0,fun _=>by show h.fuel - 1<h.fuel;omega⟩,T⟩
   ·exact⟨_,true, .nilIface,rfl,⟨.inr ⟨rfl, .inr ⟨rfl,⟨by unfold HP.out HP.inn HP.prot;simp,by show h.fuel - 1<=h.fuel;omega,by show 0<=h.fuel - 1;omega⟩,hx,fun i h1 h2 h3=>hR i h1 h2 (rch_inn h3)⟩⟩, .inl rfl,fun h1=>absurd h1 h0,fun _=>by show h.fuel - 1<h.fuel;omega⟩,T⟩
