import Derived.Test.YthcmamjpfigdfaaGreatDoorRa
import Derived.Test.YthcmamjpfigdfaaGreatDoorRc
set_option linter.all false
namespace Go.Proofs.YthcmamjpfigdfaaGreatDoor
set_option maxRecDepth 100000
set_option maxHeartbeats 0
section
open Go Go.Proofs Go.RowKit FM
theorem zero_no (n:DD):Zd5 n=noV n:=by
 unfold Zd5 noV Az
 have ee:(n.e==0)= !(n.e !=0):=(Bool.not_not _).symm
 have ec:(n.c==0)= !(n.c !=0):=(Bool.not_not _).symm
 have ew:(n.w==0)= !(n.w !=0):=(Bool.not_not _).symm
 rw[ee,ec,ew]
 generalize thV n.v=tv
 generalize thV n.g=tg
 generalize thV n.s=ts
 generalize (n.w !=0)=qa
 generalize (n.e !=0)=qe
 generalize (n.c !=0)=qc
 cases tv<;>cases qa<;>cases tg<;>cases ts<;>cases qe<;>cases qc<;>decide
theorem Xk {v:VV} (h:thV v=false):v=Aq:=by
 unfold thV at h
 simp only[Bool.not_eq_false',Bool.and_eq_true,beq_iff_eq,Bool.not_eq_true'] at h
 obtain⟨k,b,x,s,i⟩:=v
 obtain⟨⟨⟨⟨rfl,rfl⟩,rfl⟩,hs⟩,rfl⟩:=h
 have:=Nx hs
 subst this
 rfl
theorem no_zero {n:DD} (h:noV n=true):n=zeroD:=by
 rw[←zero_no] at h
 unfold Zd5 at h
 simp only[Bool.and_eq_true,Bool.not_eq_true',beq_iff_eq] at h
 obtain⟨v,g,s,a,e,c⟩:=n
 obtain⟨⟨⟨⟨⟨h1,h2⟩,h3⟩,h4⟩,h5⟩,h6⟩:=h
 have e1:=Xk h1
 have e2:=Xk h2
 have e3:=Xk h3
 dsimp only at e1 e2 e3 h4 h5 h6
 subst e1 e2 e3 h4 h5 h6
 rfl
def okF (v:VV):Prop:=(v.k !=0)=thV v/\(thV v=true->v.good=true)
theorem okV {d:DD} (h:Ee d=true):okF d.v:=by
 have hk:=(ZdX h).1
 unfold Ee at h
 simp only[Bool.and_eq_true,Bool.or_eq_true,Bool.not_eq_true'] at h
 refine⟨hk,fun ht=> ?_⟩
 rcases h.1.1.1.1.1 with h|h
 ·rw[ht] at h
  exact absurd h (by decide)
 ·exact h
theorem okC {v:VV} (h:Lc v=true):okF v:=by
 refine⟨(Zcy v).2 h,fun ht=> ?_⟩
 rw[(Zcy v).1,ht] at h
 unfold slotV at h
 simp at h
 exact h.1
theorem okG {d:DD} (h:Ee d=true):okF d.g:=by
 unfold Ee at h
 simp only[Bool.and_eq_true] at h
 exact okC h.1.1.1.1.2
theorem okS {d:DD} (h:Ee d=true):okF d.s:=by
 unfold Ee at h
 simp only[Bool.and_eq_true] at h
 exact okC h.1.1.1.2
theorem Ng {t a:Int} (h1:Oc t=true) (h2:Oc a=true):Oc (orT t a)=true:=by
 unfold orT
 cases (t !=0)
 ·exact h2
 ·exact h1
theorem Zac {n:DD} (hs:stV n=true) (hz:noV n=false):wholeV n=true:=by
 unfold stV at hs
 rw[hz] at hs
 simpa using hs
theorem Ev (a:DD):wholeV a=true↔Ee a=true/\(a.e !=0)=true/\(a.c !=0)=true/\((thV a.v=true/\(a.w !=0)=true/\thV a.g=false/\thV a.s=false)∨(thV a.g=true/\thV a.s=true/\thV a.v=false/\(a.w !=0)=false)):=by
 unfold wholeV Eo Az
 generalize Ee a=sd
 generalize thV a.v=tv
 generalize thV a.g=tg
 generalize thV a.s=ts
 generalize (a.w !=0)=qa
 generalize (a.e !=0)=qe
 generalize (a.c !=0)=qc
 cases sd<;>cases tv<;>cases qa<;>cases tg<;>cases ts<;>cases qe<;>cases qc<;>decide
theorem Vf (d:DD): ¬Eo d=0↔Ee d=true/\(((thV d.v||d.w !=0) && (thV d.g||thV d.s))=false):=by
 unfold Eo Az
 generalize Ee d=sd
 generalize thV d.v=tv
 generalize thV d.g=tg
 generalize thV d.s=ts
 generalize (d.w !=0)=qa
 cases sd<;>cases tv<;>cases qa<;>cases tg<;>cases ts<;>decide
structure Took (a d:DD):Prop where
 whole:wholeV a=true
 turn:turnV a d=false
 v:thV d.v=true->a.v=d.v
 g:thV d.g=true->a.g=d.g
 s:thV d.s=true->a.s=d.s
 w:(d.w !=0)=true->a.w=d.w
 e:(d.e !=0)=true->a.e=d.e
 c:(d.c !=0)=true->a.c=d.c
theorem Nj {v a:VV} (h:thV v=true):orV v a=v:=by unfold orV;rw[h];rfl
theorem Ry {v a:VV} (h:thV v=false):orV v a=a:=by unfold orV;rw[h];rfl
theorem Js {v a:Int} (h:(v !=0)=true):orT v a=v:=by unfold orT;rw[h];rfl
theorem Zar {v a:Int} (h:(v !=0)=false):orT v a=a:=by unfold orT;rw[h];rfl
theorem Qt:thV Dk=true/\Dk.good=true/\Lc Dk=true:=⟨by kernel_rfl,by kernel_rfl,by kernel_rfl⟩
theorem Md (v a:VV):thV (orV v a)=(thV v||thV a):=by
 cases h:thV v
 ·rw[Ry h];rfl
 ·rw[Nj h,h];rfl
theorem Xl (v a:Int):(orT v a !=0)=(v !=0||a !=0):=by
 cases h:(v !=0)
 ·rw[Zar h];rfl
 ·rw[Js h,h];rfl
theorem Zdv {v a:VV} (h1:(!thV v||v.good)=true) (h2:(!thV a||a.good)=true):(!thV (orV v a)||(orV v a).good)=true:=by
 cases h:thV v
 ·rw[Ry h];exact h2
 ·rw[Nj h];exact h1
theorem Zw {v a:VV} (h1:Lc v=true) (h2:Lc a=true):Lc (orV v a)=true:=by
 cases h:thV v
 ·rw[Ry h];exact h2
 ·rw[Nj h];exact h1
theorem Et {d:DD} (h:Ee d=true):(!thV d.v||d.v.good)=true/\Lc d.g=true/\Lc d.s=true/\Oc d.w=true/\Oc d.e=true/\Oc d.c=true:=by
 unfold Ee at h
 simp only[Bool.and_eq_true] at h
 exact⟨h.1.1.1.1.1,h.1.1.1.1.2,h.1.1.1.2,h.1.1.2,h.1.2,h.2⟩
theorem Uw {d:DD} (h1:(!thV d.v||d.v.good)=true) (h2:Lc d.g=true) (h3:Lc d.s=true) (h4:Oc d.w=true) (h5:Oc d.e=true) (h6:Oc d.c=true):Ee d=true:=by
 unfold Ee
 rw[h1,h2,h3,h4,h5,h6]
 rfl
theorem Zb0 {a d:DD} (hd:((thV d.v||d.w !=0) && (thV d.g||thV d.s))=false) (h1:(thV d.v||d.w !=0)=true->(thV a.v||a.w !=0)=true/\(thV a.g||thV a.s)=false) (h2:(thV d.g||thV d.s)=true->(thV a.g||thV a.s)=true/\(thV a.v||a.w !=0)=false):turnV a d=false:=by
 unfold turnV Az
 generalize (thV d.v||d.w !=0)=p at *
 generalize (thV d.g||thV d.s)=q at *
 generalize (thV a.v||a.w !=0)=r at *
 generalize (thV a.g||thV a.s)=t at *
 revert hd h1 h2
 cases p<;>cases q<;>cases r<;>cases t<;>decide
theorem Zbt {d:DD} (h: ¬Eo d=0):Took (Jy d) d:=by
 obtain⟨hs,hk⟩:=(Vf d).1 h
 obtain⟨p1,p2,p3,p4,p5,p6⟩:=Et hs
 have e1:(orT d.e 1 !=0)=true:=by rw[Xl];cases (d.e !=0)<;>rfl
 have e2:(orT d.c 1 !=0)=true:=by rw[Xl];cases (d.c !=0)<;>rfl
 have e3:(orT d.w 1 !=0)=true:=by rw[Xl];cases (d.w !=0)<;>rfl
 have u1: ∀v,thV (orV v Dk)=true:=fun v=>by rw[Md,Qt.1,Bool.or_true]
 have gt:((thV d.g||thV d.s)=true/\(thV d.v||d.w !=0)=false/\Jy d=⟨d.v,orV d.g Dk,orV d.s Dk,d.w,orT d.e 1,orT d.c 1⟩)∨((thV d.g||thV d.s)=false/\Jy d=⟨orV d.v Dk,d.g,d.s,orT d.w 1,orT d.e 1,orT d.c 1⟩):=by
  unfold Jy Az
  generalize (thV d.v||d.w !=0)=p at *
  generalize (thV d.g||thV d.s)=q at *
  cases p<;>cases q
  ·exact Or.inr ⟨rfl,rfl⟩
  ·exact Or.inl ⟨rfl,rfl,rfl⟩
  ·exact Or.inr ⟨rfl,rfl⟩
  ·exact absurd hk (by decide)
 rcases gt with ⟨g1,g2,g3⟩|⟨g1,g3⟩
 ·have g2':=g2
  rw[Bool.or_eq_false_iff] at g2'
  rw[g3]
  refine⟨(Ev _).2 ⟨Uw p1 (Zw p2 Qt.2.2) (Zw p3 Qt.2.2) p4 (Ng p5 (by decide)) (Ng p6 (by decide)),e1,e2,Or.inr ⟨u1 _,u1 _,g2'.1,g2'.2⟩⟩,Zb0 hk ?_ ?_,fun _=>rfl,fun k=>Nj k,fun k=>Nj k,fun _=>rfl,fun k=>Js k,fun k=>Js k⟩
  ·intro k
   rw[g2] at k
   exact absurd k (by decide)
  ·intro _
   refine⟨?_,g2⟩
   show (thV (orV d.g Dk)||thV (orV d.s Dk))=true
   rw[u1]
   rfl
 ·have g1':=g1
  rw[Bool.or_eq_false_iff] at g1'
  rw[g3]
  refine⟨(Ev _).2 ⟨Uw (Zdv p1 (by rw[Qt.2.1];exact Bool.or_true _)) p2 p3 (Ng p4 (by decide)) (Ng p5 (by decide)) (Ng p6 (by decide)),e1,e2,Or.inl ⟨u1 _,e3,g1'.1,g1'.2⟩⟩,Zb0 hk ?_ ?_,fun k=>Nj k,fun _=>rfl,fun _=>rfl,fun k=>Js k,fun k=>Js k,fun k=>Js k⟩
  ·intro _
   refine⟨?_,g1⟩
   show (thV (orV d.v Dk)||(orT d.w 1 !=0))=true
   rw[u1]
   rfl
  ·intro k
   rw[g1] at k
   exact absurd k (by decide)
theorem tri_ne {t a:Int} (h:(a !=0)=true):(orT t a !=0)=true:=by rw[Xl,h,Bool.or_true]
theorem ZcS {n d:DD} (hn:wholeV n=true) (h: ¬Eo d=0):Took (Ke n d) d:=by
 obtain⟨hs,hk⟩:=(Vf d).1 h
 obtain⟨p1,p2,p3,p4,p5,p6⟩:=Et hs
 obtain⟨ns,ne,nc,nn⟩:=(Ev n).1 hn
 obtain⟨q1,q2,q3,q4,q5,q6⟩:=Et ns
 cases ht:turnV n d
 ·have hb:Ke n d=⟨orV d.v n.v,orV d.g n.g,orV d.s n.s,orT d.w n.w,orT d.e n.e,orT d.c n.c⟩:=by
   unfold Ke
   rw[ht]
   rfl
  have sh:((thV d.v||d.w !=0)=true->thV n.v=true/\(n.w !=0)=true/\thV n.g=false/\thV n.s=false)/\((thV d.g||thV d.s)=true->thV n.g=true/\thV n.s=true/\thV n.v=false/\(n.w !=0)=false):=by
   unfold turnV Az at ht
   generalize (thV d.v||d.w !=0)=p at *
   generalize (thV d.g||thV d.s)=q at *
   rcases nn with ⟨n1,n2,n3,n4⟩|⟨n1,n2,n3,n4⟩
   ·rw[n1,n2,n3,n4] at ht ⊢
    revert ht hk
    cases p<;>cases q<;>decide
   ·rw[n1,n2,n3,n4] at ht ⊢
    revert ht hk
    cases p<;>cases q<;>decide
  have hw:wholeV (Ke n d)=true:=by
   rw[hb]
   refine(Ev _).2 ⟨Uw (Zdv p1 q1) (Zw p2 q2) (Zw p3 q3) (Ng p4 q4) (Ng p5 q5) (Ng p6 q6),tri_ne ne,tri_ne nc, ?_⟩
   show (thV (orV d.v n.v)=true/\(orT d.w n.w !=0)=true/\thV (orV d.g n.g)=false/\thV (orV d.s n.s)=false)∨(thV (orV d.g n.g)=true/\thV (orV d.s n.s)=true/\thV (orV d.v n.v)=false/\(orT d.w n.w !=0)=false)
   rw[Md,Md,Md,Xl]
   revert sh nn
   generalize thV d.v=a1
   generalize (d.w !=0)=a2
   generalize thV d.g=a3
   generalize thV d.s=a4
   generalize thV n.v=b1
   generalize (n.w !=0)=b2
   generalize thV n.g=b3
   generalize thV n.s=b4
   cases a1<;>cases a2<;>cases a3<;>cases a4<;>cases b1<;>cases b2<;>cases b3<;>cases b4<;>decide
  refine⟨hw, ?_, ?_, ?_, ?_, ?_, ?_, ?_⟩
  ·obtain⟨-, -, -,ww⟩:=(Ev _).1 hw
   refine Zb0 hk ?_ ?_
   ·intro k
    obtain⟨k1,k2,k3,k4⟩:=sh.1 k
    rw[hb]
    show (thV (orV d.v n.v)||(orT d.w n.w !=0))=true/\(thV (orV d.g n.g)||thV (orV d.s n.s))=false
    rw[Md,Md,Md,k1,k3,k4]
    rw[k] at hk
    revert hk
    generalize thV d.g=a3
    generalize thV d.s=a4
    cases a3<;>cases a4<;>simp
   ·intro k
    obtain⟨k1,k2,k3,k4⟩:=sh.2 k
    rw[hb]
    show (thV (orV d.g n.g)||thV (orV d.s n.s))=true/\(thV (orV d.v n.v)||(orT d.w n.w !=0))=false
    rw[Md,Md,Md,Xl,k1,k3,k4]
    rw[k] at hk
    revert hk
    generalize thV d.v=a3
    generalize (d.w !=0)=a4
    cases a3<;>cases a4<;>simp
  ·intro k;rw[hb];exact Nj k
  ·intro k;rw[hb];exact Nj k
  ·intro k;rw[hb];exact Nj k
  ·intro k;rw[hb];exact Js k
  ·intro k;rw[hb];exact Js k
  ·intro k;rw[hb];exact Js k
 ·have hb:Ke n d=Jy ⟨d.v,d.g,d.s,d.w,orT d.e n.e,orT d.c n.c⟩:=by
   unfold Ke
   rw[ht]
   rfl
  have hk2: ¬Eo ⟨d.v,d.g,d.s,d.w,orT d.e n.e,orT d.c n.c⟩=0:=(Vf _).2 ⟨Uw p1 p2 p3 p4 (Ng p5 q5) (Ng p6 q6),hk⟩
  have T:=Zbt hk2
  rw[←hb] at T
  exact⟨T.whole,T.turn,T.v,T.g,T.s,T.w,fun k=>(T.e (by show (orT d.e n.e !=0)=true;rw[Js k];exact k)).trans (Js k),fun k=>(T.c (by show (orT d.c n.c !=0)=true;rw[Js k];exact k)).trans (Js k)⟩
theorem ZfY (x:Nat):Ew x x=true:=by unfold Ew;simp
theorem ZeR (v:VV):Eb Ew v v=true:=by
 unfold Eb
 rw[ZfY]
 simp
theorem Ux {v:VV} (h:okF v):Mf v v=true:=by
 unfold Mf
 cases ht:thV v
 ·rfl
 ·rw[h.2 ht,ZeR]
  rfl
theorem Zd3 {x y z:Nat} (h1:Ew x y=true) (h2:Ew y z=true):Ew x z=true:=by
 unfold Ew at *
 simp only[Bool.or_eq_true,Bool.and_eq_true,decide_eq_true_eq] at *
 rcases h1 with ⟨a,b⟩|rfl
 ·rcases h2 with ⟨c,d⟩|rfl
  ·exact Or.inl ⟨a,d⟩
  ·exact Or.inl ⟨a,b⟩
 ·exact h2
theorem ZdN {a b c:VV} (h1:Eb Ew a b=true) (h2:Eb Ew b c=true):Eb Ew a c=true:=by
 unfold Eb at *
 simp only[Bool.and_eq_true,beq_iff_eq] at h1 h2 ⊢
 obtain⟨k1,r1⟩:=h1
 obtain⟨k2,r2⟩:=h2
 refine⟨k1.trans k2, ?_⟩
 by_cases h4:a.k=4
 ·rw[if_pos h4] at r1 ⊢
  rw[if_pos (k1▸h4)] at r2
  exact Zd3 r1 r2
 ·rw[if_neg h4] at r1 ⊢
  rw[if_neg (k1▸h4)] at r2
  simp only[Bool.and_eq_true,beq_iff_eq] at r1 r2 ⊢
  exact⟨⟨r1.1.1.trans r2.1.1,r1.1.2.trans r2.1.2⟩,r1.2.trans r2.2⟩
theorem Vz {a b c:VV} (h1:Mf a b=true) (h2:Mf b c=true):Mf a c=true:=by
 unfold Mf at *
 cases ha:thV a<;>cases hb:thV b<;>cases hc:thV c<;>rw[ha,hb] at h1<;>rw[hb,hc] at h2<;>simp at h1 h2 ⊢
 exact⟨⟨h1.1.1,h2.1.2⟩,ZdN h1.2 h2.2⟩
theorem Za8 {x:Bool} {n d:DD} (h:Pi x n d=true): ¬Eo d=0/\Took (Ej x n d) d/\Jt n d=0:=by
 unfold Pi at h
 by_cases hk:Eo d=0
 ·simp[hk] at h
 ·have hk0:(Eo d==0)=false:=by simp[hk]
  rw[hk0] at h
  cases hst:stV n
  ·rw[hst] at h
   simp at h
  ·rw[hst] at h
   refine⟨hk, ?_,by unfold Jt;rw[hk0,hst];rfl⟩
   unfold Ej
   rw[hk0,hst]
   cases hno:noV n
   ·rw[hno] at h
    simp only[Bool.not_true,Bool.or_self,Bool.false_eq_true,if_false] at h ⊢
    have hf:(n.c==1 && Rr n d)=false:=by
     cases hq:(n.c==1 && Rr n d)
     ·rfl
     ·rw[hq] at h
      exact absurd h (by decide)
    rw[hf]
    simp only[Bool.false_eq_true,if_false]
    exact ZcS (Zac hst hno) hk
   ·rw[hno] at h
    simp only[Bool.not_true,Bool.or_self,Bool.false_eq_true,if_false,if_true] at h ⊢
    rw[h]
    exact Zbt hk
theorem ZfE {x:Bool} {n d:DD} (h:Jt n d=0) (hb:Pi x n d=false):Ej x n d=n:=by
 unfold Jt Pi Ej at *
 cases hq:(Eo d==0|| !stV n)
 ·rw[hq] at hb
  simp only[Bool.false_eq_true,if_false] at hb ⊢
  cases hno:noV n
  ·rw[hno] at hb
   simp only[Bool.false_eq_true,if_false,Bool.not_eq_false'] at hb ⊢
   rw[hb]
   rfl
  ·rw[hno] at hb
   simp only[if_true] at hb ⊢
   rw[hb]
   simp only[Bool.false_eq_true,if_false]
   exact(no_zero hno).symm
 ·rw[hq] at h
  exact absurd h (by decide)

theorem ZbI {v a:VV} (h1:v.x<2^64) (h2:a.x<2^64):(orV v a).x<2^64:=by
 unfold orV
 split
 ·exact h1
 ·exact h2
theorem Zfu {d:DD} (h:FD d):FD (Jy d):=by
 unfold Jy
 split
 ·exact⟨h.1,ZbI h.2.1 (by decide),ZbI h.2.2 (by decide)⟩
 ·exact⟨ZbI h.1 (by decide),h.2.1,h.2.2⟩
theorem fd_app (x:Bool) {n d:DD} (hn:FD n) (hd:FD d):FD (Ej x n d):=by
 have hz:FD zeroD:=by unfold FD;decide
 unfold Ej
 split
 ·exact hz
 ·split
  ·split
   ·exact Zfu hd
   ·exact hz
  ·split
   ·exact hn
   ·unfold Ke
    split
    ·exact Zfu hd
    ·exact⟨ZbI hd.1 hn.1,ZbI hd.2.1 hn.2.1,ZbI hd.2.2 hn.2.2⟩
end
section
open Go Go.Proofs Go.RowKit FM Tryz
section
variable {md:Region.Mode} {ops:Array Oper} {Q:Exit->Act->World->Prop} {w0 w:World} {l:List (Nat×PB)} {fuel:Nat} {listed:Array Bool} {a:Act} {o:Oper}
theorem Nr (i:Nat) (dst:Option Tmp) (v:Value) (hi:ops[i]? =some o)   
    (hy:YieldsIf prog ops (fun X=>Kp w0 X l) o v a)
  (hS:Kp w0 w l) (h:wpAnyH prog md ops Q (fun X=>Kp w0 X l) fuel (listed.setIfInBounds i true) (a.put dst v) w) (hs:Region.noSelect ops=true:=by kernel_rfl) (hf:Region.free md ops listed i=true:=by kernel_rfl) (hr:(Region.ready md ops listed).contains i=true:=by kernel_rfl) (hQ: ∀c a w,Q (.panic c) (a.put dst v) w->Q (.panic c) a w:=by exact fun _ _ _ h=>h) (hd:o.dst=dst:=by kernel_rfl):wpAnyH prog md ops Q (fun X=>Kp w0 X l) (fuel+1) listed a w:=by
 subst hd
 exact wpAnyH_take hi hs hf hr hQ hy hS h
theorem Yo (j:Nat) {x:Operand} {b:Nat} {d:DD}    (hl:l[j]? =some (b, .D d)) (hw:Region.wanted o (yielded ops a.tmps)=true:=by kernel_rfl) (ho:o.op= .load 41 x:=by kernel_rfl) (hx:a.eval x= .pointer (some ⟨b,16,none⟩):=by kernel_rfl):YieldsIf prog ops (fun X=>Kp w0 X l) o (.int .i64 d.e) a:=by
 refine Or.inl ⟨hw,fun X hX=> ?_⟩
 obtain⟨-,h0,h1,h2,h3,h4,h5,h6,h7,h8,h9,h10,h11,h12,h13,h14,h15,h16,h17⟩:=Kp.get hX j hl
 unfold execOp
 simp only[ho,hx]
 simp[go_sem,h16,isAgg41]
theorem Zdm (j:Nat) {x:Operand} {b:Nat} {d:DD}    (hl:l[j]? =some (b, .D d)) (hw:Region.wanted o (yielded ops a.tmps)=true:=by kernel_rfl) (ho:o.op= .load 41 x:=by kernel_rfl) (hx:a.eval x= .pointer (some ⟨b,17,none⟩):=by kernel_rfl):YieldsIf prog ops (fun X=>Kp w0 X l) o (.int .i64 d.c) a:=by
 refine Or.inl ⟨hw,fun X hX=> ?_⟩
 obtain⟨-,h0,h1,h2,h3,h4,h5,h6,h7,h8,h9,h10,h11,h12,h13,h14,h15,h16,h17⟩:=Kp.get hX j hl
 unfold execOp
 simp only[ho,hx]
 simp[go_sem,h17,isAgg41]
end
def Ln (a b:DD):Bool:=if b.c !=1||b.e !=a.e||Az b !=Az a then false else if Az a==3 then Mf a.g b.g && Mf a.s b.s else a.w==2||b.w==1 && Mf a.v b.v
def keepB (a b:DD):Bool:=if !stV a|| !stV b then false else if noV a||a.c==2 then true else Ln a b
def Zdo (a b:DD):Int:=if !stV a|| !stV b then 5 else 0
theorem kept_any (a b:DD) (ha:FD a) (hb:FD b) (w:World) (hT:Lib.Utf8Tabs 1 2 w):Calls prog 101 #[a.agg,b.agg] w fun e w'=>e= .returned (.bool (Ln a b))/\Below w.heap.size w w':=by
 have HT:=Ab hT
 clear hT
 have HA:=Ab (By a ha)
 have HB:=Ab (By b hb)
 have HV:=Ab (fun w hT=>Zb9 a.v b.v ha.1 hb.1 w hT)
 have HG:=Ab (fun w hT=>Zb9 a.g b.g ha.2.1 hb.2.1 w hT)
 have HS:=Ab (fun w hT=>Zb9 a.s b.s ha.2.2 hb.2.2 w hT)
 clear ha hb
 have LL:=Ab (Kp.of2 (Lie.new2 w (.D a) (.D b)))
 unfold Ln
 generalize Az a=sa at *
 generalize Az b=sb at *
 generalize Mf a.v b.v=ev at *
 generalize Mf a.g b.g=eg at *
 generalize Mf a.s b.s=es at *
 generalize hq1:(b.c !=1)=q1 at *
 generalize hq2:(b.e !=a.e)=q2 at *
 generalize hq3:(sb !=sa)=q3 at *
 generalize hq4:(a.w==2)=q4 at *
 generalize hq5:(b.w==1)=q5 at *
 have hq0:=Gk a
 have hq1:=Gk b
 rw[hq0,hq1]
 clear hq0 hq1
 cases q1
 ·cases q2
  ·cases q3
   ·by_cases h3:sa=3
    ·subst h3
     go_enter func101,ntmps101
     go_wp2_with fail
     refine wp_region_held_drew (P:=prog) (S:=fun X=>Kp w X [(w.heap.size, .D a),(w.heap.size+1, .D b)]) (by kernel_rfl) (Kp.drew (Aa LL)) (fun hS0=> ?_)
     refine x0 0 (some 5) (.pointer (some ⟨w.heap.size+1,17,none⟩)) rfl hS0 ?_
     refine Nr 1 (some 6) (.int .i64 b.c) rfl (Zdm 1 (x:= .tmp 5) (b:=w.heap.size+1) (d:=b) rfl) hS0 ?_
     simp only[nn]
     refine Nu 2 (some 7) (.bool false) rfl (by kernel_rfl) (by kernel_rfl) (by kernel_rfl) (fun _ _ _ h=>h) (by kernel_rfl) (by kernel_rfl) (Xq (r:=(b.c !=1)) hq1 (fun _=>by kernel_rfl)) hS0 ?_
     simp only[nn]
     refine x0 3 (some 8) (.bool false) rfl hS0 ?_
     refine x0 4 (some 9) (.pointer (some ⟨w.heap.size+1,16,none⟩)) rfl hS0 ?_
     refine Nr 5 (some 10) (.int .i64 b.e) rfl (Yo 1 (x:= .tmp 9) (b:=w.heap.size+1) (d:=b) rfl) hS0 ?_
     simp only[nn]
     refine x0 6 (some 11) (.pointer (some ⟨w.heap.size,16,none⟩)) rfl hS0 ?_
     refine Nr 7 (some 12) (.int .i64 a.e) rfl (Yo 0 (x:= .tmp 11) (b:=w.heap.size) (d:=a) rfl) hS0 ?_
     simp only[nn]
     refine Nu 8 (some 13) (.bool false) rfl (by kernel_rfl) (by kernel_rfl) (by kernel_rfl) (fun _ _ _ h=>h) (by kernel_rfl) (by kernel_rfl) (Xq (r:=(b.e !=a.e)) hq2 (fun _=>by kernel_rfl)) hS0 ?_
     simp only[nn]
     refine x0 9 (some 14) (.bool false) rfl hS0 ?_
     refine x0 10 (some 15) (.bool false) rfl hS0 ?_
     refine x1 11 1 (some 16) (x:= .tmp 3) (b:=w.heap.size+1) (d:=b) rfl rfl hS0 ?_
     refine x1 13 0 (some 18) (x:= .tmp 2) (b:=w.heap.size) (d:=a) rfl rfl hS0 ?_
     refine x2 12 (some 17) rfl (Aa HB _) hS0 (fun uw1 hS1=> ?_)
     clear hS0
     simp only[nn]
     refine x2 14 (some 19) rfl (Aa HA _) hS1 (fun uw2 hS2=> ?_)
     clear hS1
     simp only[nn]
     refine Nu 15 (some 20) (.bool false) rfl (by kernel_rfl) (by kernel_rfl) (by kernel_rfl) (fun _ _ _ h=>h) (by kernel_rfl) (by kernel_rfl) (Xq (r:=(sb !=3)) hq3 (fun _=>by kernel_rfl)) hS2 ?_
     simp only[nn]
     refine x0 16 (some 21) (.bool false) rfl hS2 ?_
     refine dn ?_
     try simp only[nn]
     replace LL:=Ab hS2
     clear hS2
     go_wp2_with (first|go_skip|((with_reducible apply Bu);(case ho|hw|hx=>rfl);(case hc=>first|exact(Aa LL).get 0 rfl|exact(Aa LL).get 1 rfl);simp only[nn]))
     refine(Aa HA _).mono ?_
     rintro _ w31 ⟨rfl,hb⟩
     replace LL:=Ab ((Aa LL).on hb)
     clear hb
     go_wp2_with (first|go_skip|((with_reducible apply Zl);(case ho|hw|hx=>rfl);(case hc=>first|exact(Aa LL).get 0 rfl|exact(Aa LL).get 1 rfl);simp only[nn]))
     refine(Aa HG _ (Ao (Aa HT) (Aa LL).below)).mono ?_
     rintro _ w32 ⟨rfl,hb⟩
     replace LL:=Ab ((Aa LL).on hb)
     clear hb
     cases eg
     ·go_wp2_with (go_skip)
      go_ret
      exact⟨rfl,(Aa LL).below⟩
     ·go_wp2_with (first|go_skip|((with_reducible apply Zk);(case ho|hw|hx=>rfl);(case hc=>first|exact(Aa LL).get 0 rfl|exact(Aa LL).get 1 rfl);simp only[nn]))
      refine(Aa HS _ (Ao (Aa HT) (Aa LL).below)).mono ?_
      rintro _ w33 ⟨rfl,hb⟩
      replace LL:=Ab ((Aa LL).on hb)
      clear hb
      go_wp2_with (go_skip)
      go_ret
      exact⟨rfl,(Aa LL).below⟩
    ·have e3:(sa==3)=false:=by simp[h3]
     rw[e3]
     go_enter func101,ntmps101
     go_wp2_with fail
     refine wp_region_held_drew (P:=prog) (S:=fun X=>Kp w X [(w.heap.size, .D a),(w.heap.size+1, .D b)]) (by kernel_rfl) (Kp.drew (Aa LL)) (fun hS0=> ?_)
     refine x0 0 (some 5) (.pointer (some ⟨w.heap.size+1,17,none⟩)) rfl hS0 ?_
     refine Nr 1 (some 6) (.int .i64 b.c) rfl (Zdm 1 (x:= .tmp 5) (b:=w.heap.size+1) (d:=b) rfl) hS0 ?_
     simp only[nn]
     refine Nu 2 (some 7) (.bool false) rfl (by kernel_rfl) (by kernel_rfl) (by kernel_rfl) (fun _ _ _ h=>h) (by kernel_rfl) (by kernel_rfl) (Xq (r:=(b.c !=1)) hq1 (fun _=>by kernel_rfl)) hS0 ?_
     simp only[nn]
     refine x0 3 (some 8) (.bool false) rfl hS0 ?_
     refine x0 4 (some 9) (.pointer (some ⟨w.heap.size+1,16,none⟩)) rfl hS0 ?_
     refine Nr 5 (some 10) (.int .i64 b.e) rfl (Yo 1 (x:= .tmp 9) (b:=w.heap.size+1) (d:=b) rfl) hS0 ?_
     simp only[nn]
     refine x0 6 (some 11) (.pointer (some ⟨w.heap.size,16,none⟩)) rfl hS0 ?_
     refine Nr 7 (some 12) (.int .i64 a.e) rfl (Yo 0 (x:= .tmp 11) (b:=w.heap.size) (d:=a) rfl) hS0 ?_
     simp only[nn]
     refine Nu 8 (some 13) (.bool false) rfl (by kernel_rfl) (by kernel_rfl) (by kernel_rfl) (fun _ _ _ h=>h) (by kernel_rfl) (by kernel_rfl) (Xq (r:=(b.e !=a.e)) hq2 (fun _=>by kernel_rfl)) hS0 ?_
     simp only[nn]
     refine x0 9 (some 14) (.bool false) rfl hS0 ?_
     refine x0 10 (some 15) (.bool false) rfl hS0 ?_
     refine x1 11 1 (some 16) (x:= .tmp 3) (b:=w.heap.size+1) (d:=b) rfl rfl hS0 ?_
     refine x1 13 0 (some 18) (x:= .tmp 2) (b:=w.heap.size) (d:=a) rfl rfl hS0 ?_
     refine x2 12 (some 17) rfl (Aa HB _) hS0 (fun uw1 hS1=> ?_)
     clear hS0
     simp only[nn]
     refine x2 14 (some 19) rfl (Aa HA _) hS1 (fun uw2 hS2=> ?_)
     clear hS1
     simp only[nn]
     refine Nu 15 (some 20) (.bool false) rfl (by kernel_rfl) (by kernel_rfl) (by kernel_rfl) (fun _ _ _ h=>h) (by kernel_rfl) (by kernel_rfl) (Xq (r:=(sb !=sa)) hq3 (fun _=>by kernel_rfl)) hS2 ?_
     simp only[nn]
     refine x0 16 (some 21) (.bool false) rfl hS2 ?_
     refine dn ?_
     try simp only[nn]
     replace LL:=Ab hS2
     clear hS2
     go_wp2_with (first|go_skip|((with_reducible apply Bu);(case ho|hw|hx=>rfl);(case hc=>first|exact(Aa LL).get 0 rfl|exact(Aa LL).get 1 rfl);simp only[nn]))
     refine(Aa HA _).mono ?_
     rintro _ w34 ⟨rfl,hb⟩
     replace LL:=Ab ((Aa LL).on hb)
     clear hb
     cases q4
     ·cases q5
      ·go_wp2_with (first|go_skip|((with_reducible apply Kj);(case ho|hw|hx=>rfl);(case hc=>first|exact(Aa LL).get 0 rfl|exact(Aa LL).get 1 rfl);simp only[nn]))
       go_ret
       exact⟨rfl,(Aa LL).below⟩
      ·go_wp2_with (first|go_skip|((with_reducible apply Zj);(case ho|hw|hx=>rfl);(case hc=>first|exact(Aa LL).get 0 rfl|exact(Aa LL).get 1 rfl);simp only[nn])|((with_reducible apply Kj);(case ho|hw|hx=>rfl);(case hc=>first|exact(Aa LL).get 0 rfl|exact(Aa LL).get 1 rfl);simp only[nn]))
       refine(Aa HV _ (Ao (Aa HT) (Aa LL).below)).mono ?_
       rintro _ w35 ⟨rfl,hb⟩
       replace LL:=Ab ((Aa LL).on hb)
       clear hb
       go_wp2_with (go_skip)
       go_ret
       exact⟨rfl,(Aa LL).below⟩
     ·go_wp2_with (first|go_skip|((with_reducible apply Kj);(case ho|hw|hx=>rfl);(case hc=>first|exact(Aa LL).get 0 rfl|exact(Aa LL).get 1 rfl);simp only[nn]))
      go_ret
      exact⟨rfl,(Aa LL).below⟩
   ·go_enter func101,ntmps101
    go_wp2_with fail
    refine wp_region_held_drew (P:=prog) (S:=fun X=>Kp w X [(w.heap.size, .D a),(w.heap.size+1, .D b)]) (by kernel_rfl) (Kp.drew (Aa LL)) (fun hS0=> ?_)
    refine x0 0 (some 5) (.pointer (some ⟨w.heap.size+1,17,none⟩)) rfl hS0 ?_
    refine Nr 1 (some 6) (.int .i64 b.c) rfl (Zdm 1 (x:= .tmp 5) (b:=w.heap.size+1) (d:=b) rfl) hS0 ?_
    simp only[nn]
    refine Nu 2 (some 7) (.bool false) rfl (by kernel_rfl) (by kernel_rfl) (by kernel_rfl) (fun _ _ _ h=>h) (by kernel_rfl) (by kernel_rfl) (Xq (r:=(b.c !=1)) hq1 (fun _=>by kernel_rfl)) hS0 ?_
    simp only[nn]
    refine x0 3 (some 8) (.bool false) rfl hS0 ?_
    refine x0 4 (some 9) (.pointer (some ⟨w.heap.size+1,16,none⟩)) rfl hS0 ?_
    refine Nr 5 (some 10) (.int .i64 b.e) rfl (Yo 1 (x:= .tmp 9) (b:=w.heap.size+1) (d:=b) rfl) hS0 ?_
    simp only[nn]
    refine x0 6 (some 11) (.pointer (some ⟨w.heap.size,16,none⟩)) rfl hS0 ?_
    refine Nr 7 (some 12) (.int .i64 a.e) rfl (Yo 0 (x:= .tmp 11) (b:=w.heap.size) (d:=a) rfl) hS0 ?_
    simp only[nn]
    refine Nu 8 (some 13) (.bool false) rfl (by kernel_rfl) (by kernel_rfl) (by kernel_rfl) (fun _ _ _ h=>h) (by kernel_rfl) (by kernel_rfl) (Xq (r:=(b.e !=a.e)) hq2 (fun _=>by kernel_rfl)) hS0 ?_
    simp only[nn]
    refine x0 9 (some 14) (.bool false) rfl hS0 ?_
    refine x0 10 (some 15) (.bool false) rfl hS0 ?_
    refine x1 11 1 (some 16) (x:= .tmp 3) (b:=w.heap.size+1) (d:=b) rfl rfl hS0 ?_
    refine x1 13 0 (some 18) (x:= .tmp 2) (b:=w.heap.size) (d:=a) rfl rfl hS0 ?_
    refine x2 12 (some 17) rfl (Aa HB _) hS0 (fun uw1 hS1=> ?_)
    clear hS0
    simp only[nn]
    refine x2 14 (some 19) rfl (Aa HA _) hS1 (fun uw2 hS2=> ?_)
    clear hS1
    simp only[nn]
    refine Nu 15 (some 20) (.bool true) rfl (by kernel_rfl) (by kernel_rfl) (by kernel_rfl) (fun _ _ _ h=>h) (by kernel_rfl) (by kernel_rfl) (Xq (r:=(sb !=sa)) hq3 (fun _=>by kernel_rfl)) hS2 ?_
    simp only[nn]
    refine x0 16 (some 21) (.bool true) rfl hS2 ?_
    refine dn ?_
    try simp only[nn]
    replace LL:=Ab hS2
    clear hS2
    go_wp2_with (go_skip)
    go_ret
    exact⟨rfl,(Aa LL).below⟩
  ·go_enter func101,ntmps101
   go_wp2_with fail
   refine wp_region_held_drew (P:=prog) (S:=fun X=>Kp w X [(w.heap.size, .D a),(w.heap.size+1, .D b)]) (by kernel_rfl) (Kp.drew (Aa LL)) (fun hS0=> ?_)
   refine x0 0 (some 5) (.pointer (some ⟨w.heap.size+1,17,none⟩)) rfl hS0 ?_
   refine Nr 1 (some 6) (.int .i64 b.c) rfl (Zdm 1 (x:= .tmp 5) (b:=w.heap.size+1) (d:=b) rfl) hS0 ?_
   simp only[nn]
   refine Nu 2 (some 7) (.bool false) rfl (by kernel_rfl) (by kernel_rfl) (by kernel_rfl) (fun _ _ _ h=>h) (by kernel_rfl) (by kernel_rfl) (Xq (r:=(b.c !=1)) hq1 (fun _=>by kernel_rfl)) hS0 ?_
   simp only[nn]
   refine x0 3 (some 8) (.bool false) rfl hS0 ?_
   refine x0 4 (some 9) (.pointer (some ⟨w.heap.size+1,16,none⟩)) rfl hS0 ?_
   refine Nr 5 (some 10) (.int .i64 b.e) rfl (Yo 1 (x:= .tmp 9) (b:=w.heap.size+1) (d:=b) rfl) hS0 ?_
   simp only[nn]
   refine x0 6 (some 11) (.pointer (some ⟨w.heap.size,16,none⟩)) rfl hS0 ?_
   refine Nr 7 (some 12) (.int .i64 a.e) rfl (Yo 0 (x:= .tmp 11) (b:=w.heap.size) (d:=a) rfl) hS0 ?_
   simp only[nn]
   refine Nu 8 (some 13) (.bool true) rfl (by kernel_rfl) (by kernel_rfl) (by kernel_rfl) (fun _ _ _ h=>h) (by kernel_rfl) (by kernel_rfl) (Xq (r:=(b.e !=a.e)) hq2 (fun _=>by kernel_rfl)) hS0 ?_
   simp only[nn]
   refine x0 9 (some 14) (.bool true) rfl hS0 ?_
   refine x0 10 (some 15) (.bool true) rfl hS0 ?_
   refine Kd 11 (some 16) rfl hS0 ?_
   simp only[nn]
   refine Kd 12 (some 17) rfl hS0 ?_
   simp only[nn]
   refine Kd 13 (some 18) rfl hS0 ?_
   simp only[nn]
   refine Kd 14 (some 19) rfl hS0 ?_
   simp only[nn]
   refine Kd 15 (some 20) rfl hS0 ?_
   simp only[nn]
   refine x0 16 (some 21) (.bool true) rfl hS0 ?_
   refine dn ?_
   try simp only[nn]
   replace LL:=Ab hS0
   clear hS0
   go_wp2_with (go_skip)
   go_ret
   exact⟨rfl,(Aa LL).below⟩
 ·go_enter func101,ntmps101
  go_wp2_with fail
  refine wp_region_held_drew (P:=prog) (S:=fun X=>Kp w X [(w.heap.size, .D a),(w.heap.size+1, .D b)]) (by kernel_rfl) (Kp.drew (Aa LL)) (fun hS0=> ?_)
  refine x0 0 (some 5) (.pointer (some ⟨w.heap.size+1,17,none⟩)) rfl hS0 ?_
  refine Nr 1 (some 6) (.int .i64 b.c) rfl (Zdm 1 (x:= .tmp 5) (b:=w.heap.size+1) (d:=b) rfl) hS0 ?_
  simp only[nn]
  refine Nu 2 (some 7) (.bool true) rfl (by kernel_rfl) (by kernel_rfl) (by kernel_rfl) (fun _ _ _ h=>h) (by kernel_rfl) (by kernel_rfl) (Xq (r:=(b.c !=1)) hq1 (fun _=>by kernel_rfl)) hS0 ?_
  simp only[nn]
  refine x0 3 (some 8) (.bool true) rfl hS0 ?_
  refine Kd 4 (some 9) rfl hS0 ?_
  simp only[nn]
  refine Kd 5 (some 10) rfl hS0 ?_
  simp only[nn]
  refine Kd 6 (some 11) rfl hS0 ?_
  simp only[nn]
  refine Kd 7 (some 12) rfl hS0 ?_
  simp only[nn]
  refine Kd 8 (some 13) rfl hS0 ?_
  simp only[nn]
  refine x0 9 (some 14) (.bool true) rfl hS0 ?_
  refine x0 10 (some 15) (.bool true) rfl hS0 ?_
  refine Kd 11 (some 16) rfl hS0 ?_
  simp only[nn]
  refine Kd 12 (some 17) rfl hS0 ?_
  simp only[nn]
  refine Kd 13 (some 18) rfl hS0 ?_
  simp only[nn]
  refine Kd 14 (some 19) rfl hS0 ?_
  simp only[nn]
  refine Kd 15 (some 20) rfl hS0 ?_
  simp only[nn]
  refine x0 16 (some 21) (.bool true) rfl hS0 ?_
  refine dn ?_
  try simp only[nn]
  replace LL:=Ab hS0
  clear hS0
  go_wp2_with (go_skip)
  go_ret
  exact⟨rfl,(Aa LL).below⟩
end
section
open Go Go.Proofs Go.Maps Go.RowKit FM
theorem Ru {t:Int} (h:Oc t=true) (h0:(t !=0)=true):t=1∨t=2:=by
 unfold Oc at h
 simp at h h0
 omega
theorem Ut {a:DD} (h:wholeV a=true):stV a=true/\noV a=false:=by
 refine⟨by unfold stV;rw[h,Bool.or_true], ?_⟩
 obtain⟨-,he, -, -⟩:=(Ev a).1 h
 unfold noV
 rw[he]
 simp
theorem app_st {x:Bool} {n d:DD} (h:Jt n d=0):stV (Ej x n d)=true:=by
 cases hb:Pi x n d
 ·rw[ZfE h hb]
  unfold Jt at h
  cases hq:(Eo d==0|| !stV n)
  ·rw[Bool.or_eq_false_iff] at hq
   simpa using hq.2
  ·rw[hq] at h
   exact absurd h (by decide)
 ·exact(Ut (Za8 hb).2.1.whole).1
theorem app_E {n d:DD} (h:Jt n d=0): ¬Eo d=0/\stV n=true:=by
 unfold Jt at h
 cases hq:(Eo d==0|| !stV n)
 ·rw[Bool.or_eq_false_iff] at hq
  exact⟨by simpa using hq.1,by simpa using hq.2⟩
 ·rw[hq] at h
  exact absurd h (by decide)
theorem bec_kept {a d:DD} (ha:wholeV a=true) (hd: ¬Eo d=0) (hc:a.c=1) (hf:Rr a d=false):(Ke a d).c=1/\(Ke a d).e=a.e/\Az (Ke a d)=Az a/\(Az a=3->Mf a.g (Ke a d).g=true/\Mf a.s (Ke a d).s=true/\(Ke a d).v=a.v/\(Ke a d).w=a.w)/\(¬Az a=3->(Ke a d).g=a.g/\(Ke a d).s=a.s/\(a.w=1->(Ke a d).w=1/\Mf a.v (Ke a d).v=true)):=by
 obtain⟨hs,hk⟩:=(Vf d).1 hd
 obtain⟨p1,p2,p3,p4,p5,p6⟩:=Et hs
 obtain⟨ns,ne,nc,nn⟩:=(Ev a).1 ha
 have T:=ZcS ha hd
 obtain⟨-, -, -,bb⟩:=(Ev _).1 T.whole
 have ht:turnV a d=false:=by
  cases ht:turnV a d
  ·rfl
  ·unfold Rr at hf
   rw[ht] at hf
   simp at hf
 have hb:Ke a d=⟨orV d.v a.v,orV d.g a.g,orV d.s a.s,orT d.w a.w,orT d.e a.e,orT d.c a.c⟩:=by
  unfold Ke
  rw[ht]
  rfl
 have sh:((thV d.v||d.w !=0)=true->Az a=2)/\((thV d.g||thV d.s)=true->Az a=3):=by
  unfold turnV Az at ht
  unfold Az
  generalize (thV d.v||d.w !=0)=p at *
  generalize (thV d.g||thV d.s)=q at *
  rcases nn with ⟨n1,n2,n3,n4⟩|⟨n1,n2,n3,n4⟩
  ·rw[n1,n2,n3,n4] at ht ⊢
   revert ht hk
   cases p<;>cases q<;>decide
  ·rw[n1,n2,n3,n4] at ht ⊢
   revert ht hk
   cases p<;>cases q<;>decide
 unfold Rr at hf
 rw[ht] at hf
 have hq:(d.c==2||d.e !=0 && d.e !=a.e)=false:=by
  cases hq:(d.c==2||d.e !=0 && d.e !=a.e)
  ·rfl
  ·rw[hq] at hf
   simp at hf
 rw[hq] at hf
 rw[Bool.or_eq_false_iff] at hq
 simp only[Bool.or_false,Bool.false_eq_true,if_false] at hf
 have okn:=ns
 have dif: ∀(v u:VV),okF u->Zbo u v=false->Mf u (orV v u)=true:=fun v u o k=>by
  cases hv:thV v
  ·rw[Ry hv]
   exact Ux o
  ·rw[Nj hv]
   unfold Zbo at k
   rw[hv] at k
   simpa using k
 rw[hb]
 refine⟨?_, ?_, ?_, ?_, ?_⟩
 ·show orT d.c a.c=1
  cases h0:(d.c !=0)
  ·rw[Zar h0]
   exact hc
  ·rw[Js h0]
   rcases Ru p6 h0 with h|h
   ·exact h
   ·rw[h] at hq
    exact absurd hq.1 (by decide)
 ·show orT d.e a.e=a.e
  cases h0:(d.e !=0)
  ·exact Zar h0
  ·rw[Js h0]
   have:=hq.2
   rw[h0] at this
   simpa using this
 ·rw[←hb]
  have e1: ∀u:DD,wholeV u=true->Az u=if thV u.v then 2 else 3:=fun u hu=>by
   obtain⟨-, -, -,k⟩:=(Ev u).1 hu
   unfold Az
   rcases k with ⟨n1,n2,n3,n4⟩|⟨n1,n2,n3,n4⟩<;>rw[n1,n2,n3,n4]<;>rfl
  rw[e1 _ T.whole,e1 _ ha]
  rw[hb]
  show (if thV (orV d.v a.v) then (2:Int) else 3)=_
  rw[Md]
  cases hv:thV d.v
  ·rfl
  ·have:=sh.1 (by rw[hv];rfl)
   rw[e1 _ ha] at this
   cases hav:thV a.v
   ·rw[hav] at this
    simp at this
   ·rfl
 ·intro h3
  simp only[h3,beq_self_eq_true,if_true,Bool.or_eq_false_iff] at hf
  have h0:(thV d.v||d.w !=0)=false:=by
   cases hx:(thV d.v||d.w !=0)
   ·rfl
   ·have:=sh.1 hx
    omega
  rw[Bool.or_eq_false_iff] at h0
  exact⟨dif _ _ (okG ns) hf.1,dif _ _ (okS ns) hf.2,Ry h0.1,Zar h0.2⟩
 ·intro h3
  have h0:(thV d.g||thV d.s)=false:=by
   cases hx:(thV d.g||thV d.s)
   ·rfl
   ·exact absurd (sh.2 hx) h3
  rw[Bool.or_eq_false_iff] at h0
  refine⟨Ry h0.1,Ry h0.2,fun h1=> ?_⟩
  have h3':(Az a==3)=false:=by simpa using h3
  simp only[h3',h1,beq_self_eq_true,Bool.true_and,Bool.false_eq_true,if_false,Bool.or_eq_false_iff] at hf
  refine⟨?_,dif _ _ (okV ns) hf.2⟩
  show orT d.w a.w=1
  cases hw:(d.w !=0)
  ·rw[Zar hw]
   exact h1
  ·rw[Js hw]
   rcases Ru p4 hw with h|h
   ·exact h
   ·rw[h] at hf
    exact absurd hf.1 (by decide)
theorem Zgb {a:DD} (ha:wholeV a=true) (hc:a.c=1):Ln a a=true:=by
 obtain⟨ns,ne,nc,nn⟩:=(Ev a).1 ha
 obtain⟨q1,q2,q3,q4,q5,q6⟩:=Et ns
 unfold Ln
 rw[hc,Ux (okG ns),Ux (okS ns),Ux (okV ns)]
 by_cases h3:Az a=3
 ·simp[h3]
 ·rcases nn with ⟨n1,n2,n3,n4⟩|⟨n1,n2,n3,n4⟩
  ·rcases Ru q4 n2 with h|h<;>simp[h,h3]
  ·refine absurd ?_ h3
   unfold Az
   rw[n1,n2,n3,n4]
   rfl
theorem Qz {a:DD} (h:stV a=true):keepB a a=true:=by
 unfold keepB
 rw[h]
 cases hno:noV a
 ·have ha:=Zac h hno
  obtain⟨ns,ne,nc,nn⟩:=(Ev a).1 ha
  rcases Ru (Et ns).2.2.2.2.2 nc with hc|hc
  ·rw[Zgb ha hc]
   simp
  ·rw[hc]
   rfl
 ·rfl
theorem Zgd {x:Bool} {a d:DD} (h:Jt a d=0):keepB a (Ej x a d)=true:=by
 obtain⟨hd,hst⟩:=app_E h
 have hst2:=app_st (x:=x) h
 cases hb:Pi x a d
 ·rw[ZfE h hb]
  exact Qz hst
 ·unfold keepB
  rw[hst,hst2]
  cases hno:noV a
  ·have ha:=Zac hst hno
   obtain⟨ns,ne,nc,nn⟩:=(Ev a).1 ha
   rcases Ru (Et ns).2.2.2.2.2 nc with hc|hc
   ·unfold Pi at hb
    have hk0:(Eo d==0)=false:=by simp[hd]
    rw[hk0,hst,hno] at hb
    simp only[Bool.not_true,Bool.or_self,Bool.false_eq_true,if_false,hc,beq_self_eq_true,Bool.true_and,Bool.not_eq_true'] at hb
    have he:Ej x a d=Ke a d:=by
     unfold Ej
     rw[hk0,hst,hno,hb]
     simp
    rw[he]
    obtain⟨k1,k2,k3,k4,k5⟩:=bec_kept ha hd hc hb
    unfold Ln
    rw[k1,k2,k3]
    by_cases h3:Az a=3
    ·obtain⟨j1,j2, -, -⟩:=k4 h3
     simp[h3,j1,j2]
    ·obtain⟨-, -,j⟩:=k5 h3
     rcases nn with ⟨n1,n2,n3,n4⟩|⟨n1,n2,n3,n4⟩
     ·rcases Ru (Et ns).2.2.2.1 n2 with h1|h1
      ·obtain⟨j1,j2⟩:=j h1
       simp[h3,j1,j2]
      ·simp[h3,h1]
     ·refine absurd ?_ h3
      unfold Az
      rw[n1,n2,n3,n4]
      rfl
   ·rw[hc]
    rfl
  ·rfl
theorem Zeo {a b c:DD} (h1:Ln a b=true) (h2:Ln b c=true):Ln a c=true:=by
 have un: ∀a b:DD,Ln a b=true->b.c=1/\b.e=a.e/\Az b=Az a/\(Az a=3->Mf a.g b.g=true/\Mf a.s b.s=true)/\(¬Az a=3->a.w=2∨b.w=1/\Mf a.v b.v=true):=fun a b h=>by
  unfold Ln at h
  cases hq:(b.c !=1||b.e !=a.e||Az b !=Az a)
  ·rw[hq] at h
   simp only[Bool.or_eq_false_iff,bne_eq_false_iff_eq] at hq
   refine⟨hq.1.1,hq.1.2,hq.2,fun h3=> ?_,fun h3=> ?_⟩
   ·simpa [h3] using h
   ·simpa [h3] using h
  ·rw[hq] at h
   simp at h
 obtain⟨a1,a2,a3,a4,a5⟩:=un a b h1
 obtain⟨b1,b2,b3,b4,b5⟩:=un b c h2
 unfold Ln
 rw[b1,b2,b3,a2,a3]
 by_cases h3:Az a=3
 ·obtain⟨j1,j2⟩:=a4 h3
  obtain⟨i1,i2⟩:=b4 (a3.trans h3)
  simp[h3,Vz j1 i1,Vz j2 i2]
 ·have h3b: ¬Az b=3:=fun k=>h3 (a3▸k)
  rcases a5 h3 with hw|⟨hw,hs⟩
  ·simp[h3,hw]
  ·rcases b5 h3b with hw2|⟨hw2,hs2⟩
   ·omega
   ·simp[h3,hw2,Vz hs hs2]
theorem Zep {a b c:DD} (hc:stV c=true) (h1:keepB a b=true) (h2:keepB b c=true):keepB a c=true:=by
 unfold keepB at *
 cases ha:stV a
 ·rw[ha] at h1
  simp at h1
 ·cases hb:stV b
  ·rw[ha,hb] at h1
   simp at h1
  ·rw[ha,hb] at h1
   rw[hb,hc] at h2
   rw[hc]
   simp only[Bool.not_true,Bool.or_self,Bool.false_eq_true,if_false] at h1 h2 ⊢
   cases hq:(noV a||a.c==2)
   ·rw[hq] at h1
    simp only[Bool.false_eq_true,if_false] at h1 ⊢
    have hbc:b.c=1:=by
     unfold Ln at h1
     cases hq:(b.c !=1||b.e !=a.e||Az b !=Az a)
     ·simp only[Bool.or_eq_false_iff,bne_eq_false_iff_eq] at hq
      exact hq.1.1
     ·rw[hq] at h1
      simp at h1
    have hn:(noV b||b.c==2)=false:=by
     unfold noV
     rw[hbc]
     simp
    rw[hn] at h2
    exact Zeo h1 h2
   ·rfl

end
section
open Go Go.Proofs Go.Maps Go.RowKit Tryz
attribute [local go_sem] Oper.semAt_some
theorem keysW (T:TT) (w:World) (hT:T.Is w) (hlast:T.last<4000000) (hl:T.live.length<=1500000) (hU:Lib.Utf8Tabs 1 2 w) (hP:TabQ w):Calls prog 213 #[.pointer (some ⟨T.t,0,none⟩)] w fun e w'=> ∃v l9,e= .returned v/\OwnK w' w.heap.size v l9/\Below w.heap.size w w':=by
 refine(callsIn_wide (n:=4)).1 ?_
 have HL:=Ab (len30 T w hT)
 have HE:=Ab (fun X=>each41 T X)
 have HT:=Ab hT
 clear hT
 refine callsIn_of_wp_marks func213 rfl trivial ?_ rfl
 simp only[ntmps213,List.size_toArray,List.length_cons,List.length_nil,Nat.reduceAdd,Nat.reduceSub,Array.replicate_succ,Array.replicate_zero,List.push_toArray,List.append_toArray,List.nil_append,List.cons_append]
 gi_wp2_with fail
 refine⟨trivial,(callsIn_wide.2 (Aa HL)).mono ?_⟩
 rintro e w1 ⟨rfl,rfl⟩
 obtain⟨i0,hi,hz0,hz1,hz2⟩:=info_parts Rd
 obtain⟨wm,hrun,hm1,hm2⟩:=run_makeSlice_owned (P:=prog) w1 w1.heap.size 48 37 i0 _ 2 underlying48 hi hz0 hz1 .i64 .i64 T.live.length (by omega) (by rw[hz2];omega) (by unfold maxLen;omega) (Nat.le_refl _)
 gi_wp2_with fail
 refine⟨trivial,(callsIn_wide.2 ((Aa HE) _)).mono ?_⟩
 rintro e w2 ⟨rfl,rfl⟩
 have hms:=hm2.size
 have hbm:Below w1.heap.size w1 wm:=⟨hm2.os,hm2.tape,hm2.output,hm2.size,fun k hk=>hm2.block k hk (by simp)⟩
 have b3:Boxed (wm.alloc (.cells #[.slice (some ⟨w1.heap.size,0,none⟩) 0 T.live.length] 48)) wm.heap.size 48 (.slice (some ⟨w1.heap.size,0,none⟩) 0 T.live.length):=Boxed.new wm 48 _
 have bn:Boxed ((wm.alloc (.cells #[.slice (some ⟨w1.heap.size,0,none⟩) 0 T.live.length] 48)).alloc (.cells #[.pointer (some ⟨T.t,0,none⟩)] 151)) (wm.heap.size+1) 151 (.pointer (some ⟨T.t,0,none⟩)):=by
  have:=Boxed.new (wm.alloc (.cells #[.slice (some ⟨w1.heap.size,0,none⟩) 0 T.live.length] 48)) 151 (.pointer (some ⟨T.t,0,none⟩))
  rwa [World.size_alloc] at this
 have hB0:Below w1.heap.size w1 ((wm.alloc (.cells #[.slice (some ⟨w1.heap.size,0,none⟩) 0 T.live.length] 48)).alloc (.cells #[.pointer (some ⟨T.t,0,none⟩)] 151)):=(hbm.alloc hms _).alloc (by simp;omega) _
 have hT3:=(Aa HT).on hB0
 have hlt3:=(Aa HT).lt
 have HTT:=HT
 clear HL HE
 gi_wp2
 try simp only[World.size_alloc]
 refine wpIn_rangeFunc_ownH (α:=KK×DD) rfl (by omega) (gf:=152) (lb:= #[.pointer (some ⟨wm.heap.size+1,0,none⟩)]) rfl trivial (enters_of func152 (by kernel_rfl) rfl)
  (ZaU T 3 (wm.heap.size+1) w1.heap.size _ hT3 hlast hlt3 (by simp) bn.cell (by simp;omega)) kb_t (kb_b (by simp;omega) (by simp)) (Below.refl _ _) (fun _=>rfl)
  (fun pre W=>(∃v,Boxed W wm.heap.size 48 v/\W.ownsRow w1.heap.size 37 2 v pre.length (Gm (pre.map (·.1)))/\True)/\Boxed W (wm.heap.size+1) 151 (.pointer (some ⟨T.t,0,none⟩))/\Below w1.heap.size w1 W)
  (fun _ _ _=>False)
  (OwnFrom.and (Own.from (holdsRow_own w1.heap.size wm.heap.size 48 37 2 (fun pre:List (KK×DD)=>pre.length) (fun pre=>Gm (pre.map (·.1))) (fun _ _=>True)) _) (OwnFrom.and (Own.from (ZbV _ _ _) _) (ownFrom_below (Nat.le_refl _) (by simp;omega))))
  (fun _ _ _ _ _ hs _ _=>hs)
  ⟨⟨_,b3.alloc _,(hm1.alloc _).alloc _,trivial⟩,bn,hB0⟩
  (fun x a' W=> ∃Bk,a'={tmps:= #[.pointer (some ⟨T.t,0,none⟩),undef, .slice none 0 0, .pointer (some ⟨wm.heap.size,0,none⟩), .pointer (some ⟨Bk,0,none⟩), .pointer (some ⟨T.t,0,none⟩), .int .i64 T.live.length, .slice (some ⟨w1.heap.size,0,none⟩) 0 T.live.length, .pointer (some ⟨T.t,0,none⟩), .func (.func 152) #[] #[.pointer (some ⟨wm.heap.size+1,0,none⟩)],x.1.agg,x.2.agg,undef,undef,undef,undef,undef,undef,undef,undef,undef,undef],defers:= []}/\Holds W Bk x.1.cs)
  (fun x a' _ X Y row hs hg hr=>by
   obtain⟨Bk,h1,h2⟩:=hs
   exact⟨Bk,h1,Xs h2 hg (fun r e=>(hr r e).2)⟩)
  ?assign ?body ?done ?stop
 case assign=>
  intro l pre x W K hI hK
  simp only[encP]
  obtain⟨p1,p2,p3⟩:=Zci W Jg.cs x.1.cs 37 (Nat.le_refl _) rfl
  obtain⟨X1,hX1⟩: ∃X1,X1=(W.alloc (Obj.cells Jg.cs.toArray 37)).setCells W.heap.size 0 x.1.cs:=⟨_,rfl⟩
  rw[←hX1] at p1 p2 p3
  have HK:=Ab (hK)
  have hg2:W.grownBy X1 none:=Eg p1
  have hI2:Hid _:=Ab hI
  clear hK hI
  have ht:((#[10,11]:Array Tmp).zip #[x.1.agg,x.2.agg]).foldl (fun t x=>t.setIfInBounds x.1 x.2) (#[.pointer (some ⟨T.t,0,none⟩),undef, .slice none 0 0, .pointer (some ⟨wm.heap.size,0,none⟩),undef, .pointer (some ⟨T.t,0,none⟩), .int .i64 T.live.length, .slice (some ⟨w1.heap.size,0,none⟩) 0 T.live.length, .pointer (some ⟨T.t,0,none⟩), .func (.func 152) #[] #[.pointer (some ⟨wm.heap.size+1,0,none⟩)],undef,undef,undef,undef,undef,undef,undef,undef,undef,undef,undef,undef]:Array Value)= #[.pointer (some ⟨T.t,0,none⟩),undef, .slice none 0 0, .pointer (some ⟨wm.heap.size,0,none⟩),undef, .pointer (some ⟨T.t,0,none⟩), .int .i64 T.live.length, .slice (some ⟨w1.heap.size,0,none⟩) 0 T.live.length, .pointer (some ⟨T.t,0,none⟩), .func (.func 152) #[] #[.pointer (some ⟨wm.heap.size+1,0,none⟩)],x.1.agg,x.2.agg,undef,undef,undef,undef,undef,undef,undef,undef,undef,undef]:=by simp
  rw[ht]
  refine wpIn_region_lit ?_
  refine inV (fun _=>trivial) (by rfl) (by intro c h;cases h) (ZaS rfl) ?_
  simp only[nn]
  refine inS (fun _=>trivial) (by intro c h;cases h) (Gi (t:=37) (vs:=x.1.cs) rfl rfl rfl rfl (by simp[KK.cs,Value.oneCell']) Kh (Holds.new W Jg.cs 37) (Nat.le_refl _)) ?_
  rw[←hX1]
  simp only[nn]
  refine wpListIn_nil ?_
  obtain⟨⟨v,hv,hrow, -⟩,hbn,hB⟩:=Aa hI2
  have hsz:=hB.size
  exact(Aa HK) _ X1 (KeepsFrom.of_grownBy hg2 (fun j e=>by cases e)) ⟨p1.mono hsz,p1.block _ hbn.lt⟩ ⟨⟨v,hv.kept hg2 (by simp),Qw hrow (fun g hg=>p1.block g (World.ownsRow.lt hrow g hg).2),trivial⟩,hbn.kept hg2 (by simp),hB.trans (p1.mono hsz)⟩ ⟨W.heap.size,rfl,p2⟩
 case body=>
  rintro l pre x a' W hl2 hloop ⟨⟨v,hv,hrow, -⟩,hbn,hB⟩ ⟨Bk,rfl,hk⟩ hlen
  have Hk:=Ab hk
  have Hv:=Ab hv
  have Hrow:=Ab hrow
  have Hbn:=Ab hbn
  have HB:=Ab hB
  clear hk hv hrow hbn hB hloop
  refine wpIn_block ?_
  refine wpIn_region_lit ?_
  refine inV (fun _=>trivial) (by rfl) (by intro c h;cases h) (Jn (B:=wm.heap.size) (p:=0) (v:=v) 48 isAgg48 rfl rfl (Aa Hv).cell) ?_
  simp only[nn]
  refine inV (fun _=>trivial) (by rfl) (by intro c h;cases h) (Af (B:=Bk) (p:=0) (cs:=x.1.cs) (vs:=x.1.cs) 37 2 Jh Kh rfl rfl (Aa Hk) rfl rfl) ?_
  simp only[nn]
  refine inV (fun _=>trivial) (by rfl) (by intro c h;cases h) (Mb (t:=48) (e:=37) (v:= .agg x.1.cs.toArray) (cs:=x.1.cs) rfl rfl underlying48 Rd (by decide) rfl rfl (by decide)) ?_
  simp only[nn]
  refine appI (v:=v) (B:=W.heap.size) (m:=1) (c:=1) (fun _=>trivial) rfl rfl rfl underlying48 Rd rfl ((Aa Hrow).alloc _) (Holds.new W x.1.cs 37) rfl (by simp[KK.cs,Value.oneCell']) (by have:=(Aa HB).size;simp;omega) ?_
  intro A c' w4 ho4 hg4
  have HA:=Ab ((Aa Hv).appended (by decide) (Aa Hrow) (Aa HB).size hms ho4 hg4)
  have HG:=Ab hg4
  clear ho4 hg4
  simp only[nn]
  refine inS (fun _=>trivial) (by intro c h;cases h) (Gi (t:=48) (b:=wm.heap.size) (p:=0) (cs:= [v]) (vs:= [.slice A (pre.length+1) c']) rfl rfl rfl rfl (by simp[Value.oneCell']) siz64 (Yt (Aa HA).1) (Nat.le_refl _)) ?_
  simp only[nn]
  refine wpListIn_nil ?_
  obtain⟨h1,h2,h3,h4,h5⟩:=Aa HA
  have hbn:=Aa Hbn
  have hB:=Aa HB
  have hne:some (wm.heap.size+1)≠v.ownBlock:=hbn.not_row (by decide) (Aa Hrow)
  have eb:(w4.setCell ⟨wm.heap.size,0,none⟩ (Value.slice A (pre.length+1) c')).heap[wm.heap.size+1]? =W.heap[wm.heap.size+1]? :=by
   rw[Below.heap_setCell _ _ _ _ (by show wm.heap.size+1≠wm.heap.size;omega),(Aa HG).block _ (by have:=hbn.lt;simp;omega) hne,Below.heap_alloc _ _ _ hbn.lt]
  refine⟨h4.from _,⟨h5,eb⟩,⟨⟨_,h2, ?_,trivial⟩,eb.trans hbn,hB.trans h5⟩⟩
  rw[List.map_append,Vi,show Gm (List.map (fun z:KK×DD=>z.1) [x])=x.1.cs from Zgm x.1,List.length_append]
  exact h3
 case done=>
  rintro D ys W hD rfl ⟨⟨v,hv,hrow, -⟩,hbn,hB⟩ hK
  have hc:=hv.cell
  have hO:OwnK W w1.heap.size v (T.live.map (·.k)):=by
   unfold OwnK
   have e1:(T.live.map RR.pr).map (fun z:KK×DD=>z.1)=T.live.map (·.k):=by rw[List.map_map];rfl
   rw[e1] at hrow
   rw[List.length_map] at hrow ⊢
   exact hrow
  have hall:(T.live.map (·.k)).all goodK=true:=by
   rw[List.all_map,List.all_eq_true]
   intro r hr
   exact(Aa HT).good r hr
  have HC:=Ab (orderW v (T.live.map (·.k)) W (ZcV hU (Zbu hU) hB) (hP.on hB) hO.reads (by rw[List.length_map];exact hl))
  clear hO
  gi_wp2_with fail
  refine⟨trivial,(callsIn_wide.2 (Aa HC)).mono ?_⟩
  rintro e W5 ⟨v5,n5,rfl,hb5,hcase⟩
  rcases hcase with ⟨-,rfl,L5,hO5⟩|⟨hbad, -, -⟩
  rotate_left
  ·rw[hall] at hbad;cases hbad
  obtain⟨A5,c5,rfl⟩:=Ex hO5
  have hv5:Boxed W5 wm.heap.size 48 v:=(hb5.block _ hv.lt).trans hv
  have hc5:=hv5.cell
  have hf5:=hv5.frozen
  have hDl:D<W.heap.size:=(Array.getElem?_eq_some_iff.1 hK).1
  have hD2:wm.heap.size+1+1<=D:=by simpa using hD
  have HO5:=Ab hO5
  clear hO5 hall
  gi_wp2
  have hK5:(W5.setCell ⟨wm.heap.size,0,none⟩ (.slice A5 L5.length c5)).heap[D]? =some (.deferred (some [])):=by
   rw[Below.heap_setCell _ _ _ _ (by show D≠wm.heap.size;omega),hb5.block D hDl]
   exact hK
  have hO5:=Aa HO5
  have hBs:=hB.size
  refine⟨by simp, .inl ⟨_,_,rfl,run_takeDeferred hK5, ?_⟩⟩
  refine⟨_,results_tmp rfl _ _ _,_,L5,rfl, ?_,((hB.trans (hb5.mono hBs)).setCell (p:=⟨wm.heap.size,0,none⟩) (by exact hms) _).trans (belowK_b (w:=w1) (Nat.le_refl _) _ D _ _ (by omega) hK5 rfl rfl)⟩
  refine(hO5.mono hBs).block (fun g hg=> ?_)
  have hg2:=(hO5.own g hg)
  have e1: ∀(Z:World) (o':Obj),(Z.putObj D o').heap[g]? =Z.heap[g]? :=fun Z o'=>by
   show (Z.heap.setIfInBounds D o')[g]? =_
   rw[Array.getElem?_setIfInBounds_ne (by omega)]
  rw[e1,Below.heap_setCell _ _ _ _ (by have:=hv.lt;show g≠wm.heap.size;omega)]
 case stop=>
  rintro D c pre W _ _ h _
  exact h.elim
