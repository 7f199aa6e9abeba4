import Derived.Test.YtfefpbjkbmaicaaGreatDoorRm
set_option linter.all false
namespace Go.Proofs.YtfefpbjkbmaicaaGreatDoor
set_option maxRecDepth 100000
set_option maxHeartbeats 0
section
open Go Go.Proofs Go.Maps Go.RowKit FM
structure Jst (ns:List ByteArray) (i:Nat) (p:PM):Prop where
 len:p.l.length<=i
 at': ∀m a,p.l[m]? =some a->p.pF a.n=some m/\a.t<i/\ns[a.t]? =some a.n/\ ∀j,a.t<j->j<i->ns[j]? ≠some a.n
 pl: ∀s m,p.pF s=some m-> ∃a,p.l[m]? =some a/\a.n=s
 all: ∀j s,j<i->ns[j]? =some s-> ∃m,p.pF s=some m
structure I1 (ns:List ByteArray) (i:Nat) (p:PM):Prop where
 st:Jst ns i p
 pn:p.pn<=i
 t0:p.tF=fun _=>none
 tn:p.tn=0
theorem set_last {α:Type} (l:List α) (x y:α):(l++ [x]).set l.length y=l++ [y]:=by simp
theorem i1_step {ns:List ByteArray} {i:Nat} {p p':PM} {s:ByteArray} {n:Nat} (h:I1 ns i p) (hs:ns[i]? =some s) (hP:Zbh p s p' n): ∃a,p'.l[n]? =some a/\p'.b=p.b/\I1 ns (i+1) (p'.val n ⟨a.n,a.v,i⟩):=by
 obtain⟨⟨h1,h3,h4,h5⟩,h2,h6,h7⟩:=h
 rcases hP with ⟨hF,rfl⟩|⟨hF,rfl,hb,hl,hp,hpn,ht,htn⟩
 ·obtain⟨a,ha,rfl⟩:=h4 s n hF
  have hlt:=(List.getElem?_eq_some_iff.1 ha).1
  refine⟨a,ha,rfl,⟨⟨?_,fun m b hm=> ?_,fun s' m hm=> ?_,fun j s' hj hs'=> ?_⟩, ?_,h6,h7⟩⟩
  ·show (p'.l.set n _).length<=i+1
   rw[List.length_set]
   omega
  ·have hm:(p'.l.set n ⟨a.n,a.v,i⟩)[m]? =some b:=hm
   by_cases e:n=m
   ·subst e
    rw[List.getElem?_set_self hlt] at hm
    cases hm
    exact⟨hF,Nat.lt_succ_self i,hs,fun j q1 q2=>by
     have q1:i<j:=q1
     omega⟩
   ·rw[List.getElem?_set_ne e] at hm
    obtain⟨g1,g2,g3,g4⟩:=h3 m b hm
    refine⟨g1,Nat.lt_succ_of_lt g2,g3,fun j q1 q2 hh=> ?_⟩
    rcases Nat.lt_or_ge j i with q3|q3
    ·exact g4 j q1 q3 hh
    ·obtain rfl:j=i:=by omega
     rw[hs] at hh
     have:a.n=b.n:=Option.some.inj hh
     rw[this,g1] at hF
     exact e (Option.some.inj hF).symm
  ·obtain⟨b,hb,hbn⟩:=h4 s' m hm
   by_cases e:n=m
   ·subst e
    rw[ha] at hb
    cases hb
    exact⟨⟨a.n,a.v,i⟩,List.getElem?_set_self hlt,hbn⟩
   ·exact⟨b,(List.getElem?_set_ne e).trans hb,hbn⟩
  ·rcases Nat.lt_or_ge j i with q3|q3
   ·exact h5 j s' q3 hs'
   ·obtain rfl:j=i:=by omega
    rw[hs] at hs'
    cases hs'
    exact⟨n,hF⟩
  ·show p'.pn<=i+1
   omega
 ·have hval:(p'.val p.l.length ⟨s,Bz,i⟩).l=p.l++ [⟨s,Bz,i⟩]:=by
   unfold PM.val
   rw[hl]
   exact set_last _ _ _
  have hpF:(p'.val p.l.length ⟨s,Bz,i⟩).pF=putK p.pF s (some p.l.length):=hp
  refine⟨⟨s,Bz,0⟩,by rw[hl];simp,hb,⟨⟨?_,fun m b hm=> ?_,fun s' m hm=> ?_,fun j s' hj hs'=> ?_⟩, ?_, ?_, ?_⟩⟩
  ·rw[hval,List.length_append]
   simp
   omega
  ·rw[hval] at hm
   rw[hpF]
   rcases Nat.lt_or_ge m p.l.length with q|q
   ·rw[List.getElem?_append_left q] at hm
    obtain⟨g1,g2,g3,g4⟩:=h3 m b hm
    have hne:b.n≠s:=fun e=>by rw[e,hF] at g1;cases g1
    refine⟨by rw[Gl _ _ hne];exact g1,Nat.lt_succ_of_lt g2,g3,fun j q1 q2 hh=> ?_⟩
    rcases Nat.lt_or_ge j i with q3|q3
    ·exact g4 j q1 q3 hh
    ·obtain rfl:j=i:=by omega
     rw[hs] at hh
     exact hne (Option.some.inj hh).symm
   ·rw[List.getElem?_append_right q] at hm
    have q0:m - p.l.length=0:=by
     have:=(List.getElem?_eq_some_iff.1 hm).1
     simp at this
     omega
    rw[q0] at hm
    cases hm
    obtain rfl:m=p.l.length:=by omega
    exact⟨Gs _ _ _,Nat.lt_succ_self i,hs,fun j q1 q2=>by
     have q1:i<j:=q1
     omega⟩
  ·rw[hpF] at hm
   rw[hval]
   by_cases e:s'=s
   ·subst e
    rw[Gs] at hm
    cases hm
    exact⟨⟨s',Bz,i⟩,by simp,rfl⟩
   ·rw[Gl _ _ e] at hm
    obtain⟨b,hb,hbn⟩:=h4 s' m hm
    exact⟨b,by rw[List.getElem?_append_left (List.getElem?_eq_some_iff.1 hb).1];exact hb,hbn⟩
  ·rw[hpF]
   by_cases e:s'=s
   ·subst e
    exact⟨_,Gs _ _ _⟩
   ·rcases Nat.lt_or_ge j i with q3|q3
    ·obtain⟨m,hm⟩:=h5 j s' q3 hs'
     exact⟨m,by rw[Gl _ _ e];exact hm⟩
    ·obtain rfl:j=i:=by omega
     rw[hs] at hs'
     exact absurd (Option.some.inj hs').symm e
  ·show p'.pn<=i+1
   omega
  ·exact ht.trans h6
  ·exact htn.trans h7
structure I2 (vs:List VV) (ns:List ByteArray) (n:Nat) (p:PM):Prop where
 st:Jst ns ns.length p
 tn:p.tn<=n
 e: ∀i m,p.tF i=some m-> ∃a,p.l[m]? =some a/\(a.t:Int)=i/\vs[a.t]? =some a.v
 d: ∀m a,m<n->p.l[m]? =some a->a.t<vs.length->p.tF (a.t:Int)=some m
theorem Zbu {ns:List ByteArray} {i n:Nat} {p p':PM} {a:PA} (h:Jst ns i p) (ha:p.l[n]? =some a) (v:VV) (hl:p'.l=p.l.set n ⟨a.n,v,a.t⟩) (hp:p'.pF=p.pF):Jst ns i p':=by
 have hlt:=(List.getElem?_eq_some_iff.1 ha).1
 refine⟨by rw[hl,List.length_set];exact h.len,fun m b hm=> ?_,fun s m hm=> ?_,fun j s hj hs=>by rw[hp];exact h.all j s hj hs⟩
 ·rw[hl] at hm
  rw[hp]
  by_cases e:n=m
  ·subst e
   rw[List.getElem?_set_self hlt] at hm
   cases hm
   exact h.at' n a ha
  ·rw[List.getElem?_set_ne e] at hm
   exact h.at' m b hm
 ·rw[hp] at hm
  rw[hl]
  obtain⟨b,hb,hbn⟩:=h.pl s m hm
  by_cases e:n=m
  ·subst e
   rw[ha] at hb
   cases hb
   exact⟨_,List.getElem?_set_self hlt,hbn⟩
  ·exact⟨b,(List.getElem?_set_ne e).trans hb,hbn⟩
theorem i2_no {vs:List VV} {ns:List ByteArray} {n:Nat} {p:PM} {a:PA} {v:VV} (h:I2 vs ns n p) (ha:p.l[n]? =some a) (hno:vs.length<=a.t):I2 vs ns (n+1) (p.val n ⟨a.n,v,a.t⟩):=by
 have hlt:=(List.getElem?_eq_some_iff.1 ha).1
 refine⟨Zbu h.st ha v rfl rfl,Nat.le_succ_of_le h.tn,fun i m hm=> ?_,fun m b hm hb hbt=> ?_⟩
 ·obtain⟨b,hb,hi,hv⟩:=h.e i m hm
  have e:n≠m:=fun e=>by
   subst e
   rw[ha] at hb
   cases hb
   have:=(List.getElem?_eq_some_iff.1 hv).1
   omega
  exact⟨b,(List.getElem?_set_ne e).trans hb,hi,hv⟩
 ·have hb:(p.l.set n ⟨a.n,v,a.t⟩)[m]? =some b:=hb
  by_cases e:n=m
  ·subst e
   rw[List.getElem?_set_self hlt] at hb
   cases hb
   have hbt:a.t<vs.length:=hbt
   omega
  ·rw[List.getElem?_set_ne e] at hb
   exact h.d m b (by omega) hb hbt
theorem i2_yes {vs:List VV} {ns:List ByteArray} {n:Nat} {p:PM} {a:PA} {v:VV} (h:I2 vs ns n p) (ha:p.l[n]? =some a) (hv:vs[a.t]? =some v):I2 vs ns (n+1) (p.tied n ⟨a.n,v,a.t⟩):=by
 have hlt:=(List.getElem?_eq_some_iff.1 ha).1
 refine⟨Zbu h.st ha v rfl rfl,Nat.succ_le_succ h.tn,fun i m hm=> ?_,fun m b hm hb hbt=> ?_⟩
 ·have hm:putK p.tF (a.t:Int) (some n) i=some m:=hm
  by_cases ei:i=(a.t:Int)
  ·subst ei
   rw[Gs] at hm
   cases hm
   exact⟨_,List.getElem?_set_self hlt,rfl,hv⟩
  ·rw[Gl _ _ ei] at hm
   obtain⟨b,hb,hi,hv'⟩:=h.e i m hm
   have e:n≠m:=fun e=>by
    subst e
    rw[ha] at hb
    cases hb
    exact ei hi.symm
   exact⟨b,(List.getElem?_set_ne e).trans hb,hi,hv'⟩
 ·have hb:(p.l.set n ⟨a.n,v,a.t⟩)[m]? =some b:=hb
  show putK p.tF (a.t:Int) (some n) (b.t:Int)=some m
  by_cases e:n=m
  ·subst e
   rw[List.getElem?_set_self hlt] at hb
   cases hb
   exact Gs _ _ _
  ·rw[List.getElem?_set_ne e] at hb
   have hne:(b.t:Int)≠(a.t:Int):=fun he=>by
    have he:b.t=a.t:=by omega
    have g1:=h.st.at' m b hb
    have g2:=h.st.at' n a ha
    rw[he] at g1
    have:b.n=a.n:=Option.some.inj (g1.2.2.1.symm.trans g2.2.2.1)
    rw[this] at g1
    exact e (Option.some.inj (g2.1.symm.trans g1.1))
   rw[Gl _ _ hne]
   exact h.d m b (by omega) hb hbt
theorem i1_i2 {vs:List VV} {ns:List ByteArray} {p:PM} (h:I1 ns ns.length p):I2 vs ns 0 p:=⟨h.st,(by rw[h.tn];exact Nat.le_refl _),(fun i m hm=>by rw[h.t0] at hm;cases hm),(fun m a hm=>by omega)⟩
structure NewPM (vs:List VV) (ns:List ByteArray) (p:PM):Prop where
 st:Jst ns ns.length p
 e: ∀i m,p.tF i=some m-> ∃a,p.l[m]? =some a/\(a.t:Int)=i/\vs[a.t]? =some a.v
 d: ∀m a,p.l[m]? =some a->a.t<vs.length->p.tF (a.t:Int)=some m
