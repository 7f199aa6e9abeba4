import Derived.Test.YthcmamjpfigdfaaGreatDoorQz
import Derived.ProofKit
set_option linter.all false
namespace Go.Proofs.YthcmamjpfigdfaaGreatDoor
set_option maxRecDepth 100000
set_option maxHeartbeats 0
section
open Go Go.Proofs Go.RowKit FM Tryz
def Dl (x:Bool) (n d:DD):DD:=if Eo d==0|| !stV n then zeroD else if noV n then (if x then Js d else zeroD) else if n.c==1 && Re n d then n else Ke n d
def Nj (x:Bool) (n d:DD):Bool:=if Eo d==0|| !stV n then false else if noV n then x else !(n.c==1 && Re n d)
def Jc (n d:DD):Int:=if Eo d==0|| !stV n then 5 else 0
theorem no_str {n:DD} (h:noV n=true):n.v.s.size<=1048576:=by
 refine Zdc ?_
 unfold noV Ay at h
 cases ht:thV n.v
 ·rfl
 ·rw[ht] at h
  simp at h
  split at h<;>simp_all
theorem st_str {n:DD} (h:stV n=true):n.v.s.size<=1048576:=by
 unfold stV at h
 simp only[Bool.or_eq_true] at h
 rcases h with h|h
 ·exact no_str h
 ·exact Xp (Rq (ZdJ h))
theorem bec_str {n d:DD} (h1:n.v.s.size<=1048576) (h2:d.v.s.size<=1048576):(Ke n d).v.s.size<=1048576:=by
 unfold Ke
 cases turnV n d
 ·show (orV d.v n.v).s.size<=1048576
  unfold orV
  cases thV d.v
  ·exact h1
  ·exact h2
 ·exact Zdr h2
theorem ZgG (x:Bool) (n d:DD) (hn:FD n) (hd:FD d) (w:World) (hT:Lib.Utf8Tabs 1 2 w):Calls prog 107 #[.bool x,n.agg,d.agg] w fun e w'=>e= .returned (.tuple #[(Dl x n d).agg, .bool (Nj x n d), .int .i64 (Jc n d)])/\Below w.heap.size w w':=by
 have HT:=Ab hT
 clear hT
 have HC:=Ab (fun w hT=>Vw d hd w hT)
 have HSt:=Ab (fun w hT=>Ri n hn w hT)
 have HNo:=Ab (Pn n hn)
 have HFi:=Ab (ZaM d hd)
 have HFb:=Ab (fun w hT=>Zbc n d hn hd w hT)
 have HBe:=Ab (ZeH n d hn hd)
 have HAf:=Ab (fun (h: ¬Eo d=0) w=>Za3 (Js d) (Zdr (Xp (Rq h))) w)
 have HAn:=Ab (fun (h:stV n=true) w=>Za3 n (st_str h) w)
 have HAb:=Ab (fun (h: ¬Eo d=0) (h2:stV n=true) w=>Za3 (Ke n d) (bec_str (st_str h2) (Xp (Rq h))) w)
 clear hn hd
 have LL:=Ab (Lie.new3 w (.D n) (.D d) (.D zeroD))
 unfold Dl Nj Jc
 unfold Jt at HC
 generalize Eo d=k at *
 generalize stV n=st at *
 generalize noV n=no at *
 generalize Js d=fd at *
 generalize Re n d=fb at *
 generalize Ke n d=be at *
 generalize hq:(n.c==1)=q at *
 have hq0:=Ex n
 have hq1:=Ex d
 rw[hq0,hq1]
 clear hq0 hq1
 by_cases hk:k=0
 ·clear HAf HAb HAn
  subst hk
  go_enter func107,ntmps107
  go_wp2_with (first|go_skip|((with_reducible apply Bw);(case ho|hw|hx=>rfl);(case hc=>first|exact(Aa LL).one|exact(Aa LL).two);simp only[nn]))
  refine(Aa HC _ (Aj (Aa HT) (Aa LL).below)).mono ?_
  rintro _ w11 ⟨rfl,hb⟩
  replace LL:=Ab ((Aa LL).on hb)
  clear hb
  go_wp2_with (first|go_skip|((with_reducible apply Kh (u:=zeroD) 2);(case ho|hw=>rfl);(case hL=>exact Aa LL);(case hi|hx|hy=>rfl);(intro X LX;simp only[nn];replace LL:=Ab LX;clear LX)))
  refine Og rfl rfl rfl rfl rfl (Aa LL).three ?_
  exact⟨rfl,(Aa LL).below⟩
 ·have e0:(k==0)=false:=by simp[hk]
  simp only[e0] at HC ⊢
  replace HAf:=Ab (Aa HAf hk)
  replace HAb:=Ab (Aa HAb hk)
  clear hk e0
  cases st
  ·clear HAn HAb
   go_enter func107,ntmps107
   go_wp2_with (first|go_skip|((with_reducible apply Bw);(case ho|hw|hx=>rfl);(case hc=>first|exact(Aa LL).one|exact(Aa LL).two);simp only[nn]))
   refine(Aa HC _ (Aj (Aa HT) (Aa LL).below)).mono ?_
   rintro _ w12 ⟨rfl,hb⟩
   replace LL:=Ab ((Aa LL).on hb)
   clear hb
   go_wp2_with (first|go_skip|((with_reducible apply Bw);(case ho|hw|hx=>rfl);(case hc=>first|exact(Aa LL).one|exact(Aa LL).two);simp only[nn]))
   refine(Aa HSt _ (Aj (Aa HT) (Aa LL).below)).mono ?_
   rintro _ w13 ⟨rfl,hb⟩
   replace LL:=Ab ((Aa LL).on hb)
   clear hb
   go_wp2_with (first|go_skip|((with_reducible apply Kh (u:=zeroD) 2);(case ho|hw=>rfl);(case hL=>exact Aa LL);(case hi|hx|hy=>rfl);(intro X LX;simp only[nn];replace LL:=Ab LX;clear LX)))
   refine Og rfl rfl rfl rfl rfl (Aa LL).three ?_
   exact⟨rfl,(Aa LL).below⟩
  ·replace HAn:=Ab (Aa HAn rfl)
   replace HAb:=Ab (Aa HAb rfl)
   cases no
   ·go_enter func107,ntmps107
    go_wp2_with (first|go_skip|((with_reducible apply Bw);(case ho|hw|hx=>rfl);(case hc=>first|exact(Aa LL).one|exact(Aa LL).two);simp only[nn]))
    refine(Aa HC _ (Aj (Aa HT) (Aa LL).below)).mono ?_
    rintro _ w17 ⟨rfl,hb⟩
    replace LL:=Ab ((Aa LL).on hb)
    clear hb
    go_wp2_with (first|go_skip|((with_reducible apply Bw);(case ho|hw|hx=>rfl);(case hc=>first|exact(Aa LL).one|exact(Aa LL).two);simp only[nn]))
    refine(Aa HSt _ (Aj (Aa HT) (Aa LL).below)).mono ?_
    rintro _ w18 ⟨rfl,hb⟩
    replace LL:=Ab ((Aa LL).on hb)
    clear hb
    go_wp2_with (first|go_skip|((with_reducible apply Bw);(case ho|hw|hx=>rfl);(case hc=>first|exact(Aa LL).one|exact(Aa LL).two);simp only[nn]))
    refine(Aa HNo _).mono ?_
    rintro _ w19 ⟨rfl,hb⟩
    replace LL:=Ab ((Aa LL).on hb)
    clear hb
    go_wp2_with (first|go_skip|((with_reducible apply Bw);(case ho|hw|hx=>rfl);(case hc=>first|exact(Aa LL).one|exact(Aa LL).two);simp only[nn]))
    refine(Aa HNo _).mono ?_
    rintro _ w20 ⟨rfl,hb⟩
    replace LL:=Ab ((Aa LL).on hb)
    clear hb
    cases q
    ·go_wp2_with (first|go_skip|((with_reducible apply Bw);(case ho|hw|hx=>rfl);(case hc=>first|exact(Aa LL).one|exact(Aa LL).two);simp only[nn])|((with_reducible apply Dt);(case ho|hw|hx=>rfl);(case hc=>first|exact(Aa LL).one|exact(Aa LL).two);simp only[nn]))
     refine(Aa HBe _).mono ?_
     rintro _ w21 ⟨rfl,hb⟩
     replace LL:=Ab ((Aa LL).on hb)
     clear hb
     go_wp2_with (go_skip)
     refine(Aa HAb _).mono ?_
     rintro _ w22 ⟨rfl,hb⟩
     replace LL:=Ab ((Aa LL).on hb)
     clear hb
     go_wp2_with (first|go_skip|((with_reducible apply Kh 2);(case ho|hw=>rfl);(case hL=>exact Aa LL);(case hi|hx|hy=>rfl);(intro X LX;simp only[nn];replace LL:=Ab LX;clear LX)))
     refine Og rfl rfl rfl rfl rfl (Aa LL).three ?_
     exact⟨rfl,(Aa LL).below⟩
    ·go_wp2_with (first|go_skip|((with_reducible apply Bw);(case ho|hw|hx=>rfl);(case hc=>first|exact(Aa LL).one|exact(Aa LL).two);simp only[nn])|((with_reducible apply Dt);(case ho|hw|hx=>rfl);(case hc=>first|exact(Aa LL).one|exact(Aa LL).two);simp only[nn]))
     refine(Aa HFb _ (Aj (Aa HT) (Aa LL).below)).mono ?_
     rintro _ w23 ⟨rfl,hb⟩
     replace LL:=Ab ((Aa LL).on hb)
     clear hb
     cases fb
     ·go_wp2_with (first|go_skip|((with_reducible apply Bw);(case ho|hw|hx=>rfl);(case hc=>first|exact(Aa LL).one|exact(Aa LL).two);simp only[nn]))
      refine(Aa HBe _).mono ?_
      rintro _ w24 ⟨rfl,hb⟩
      replace LL:=Ab ((Aa LL).on hb)
      clear hb
      go_wp2_with (go_skip)
      refine(Aa HAb _).mono ?_
      rintro _ w25 ⟨rfl,hb⟩
      replace LL:=Ab ((Aa LL).on hb)
      clear hb
      go_wp2_with (first|go_skip|((with_reducible apply Kh 2);(case ho|hw=>rfl);(case hL=>exact Aa LL);(case hi|hx|hy=>rfl);(intro X LX;simp only[nn];replace LL:=Ab LX;clear LX)))
      refine Og rfl rfl rfl rfl rfl (Aa LL).three ?_
      exact⟨rfl,(Aa LL).below⟩
     ·go_wp2_with (first|go_skip|((with_reducible apply Bw);(case ho|hw|hx=>rfl);(case hc=>first|exact(Aa LL).one|exact(Aa LL).two);simp only[nn]))
      refine(Aa HAn _).mono ?_
      rintro _ w26 ⟨rfl,hb⟩
      replace LL:=Ab ((Aa LL).on hb)
      clear hb
      go_wp2_with (first|go_skip|((with_reducible apply Kh 2);(case ho|hw=>rfl);(case hL=>exact Aa LL);(case hi|hx|hy=>rfl);(intro X LX;simp only[nn];replace LL:=Ab LX;clear LX)))
      refine Og rfl rfl rfl rfl rfl (Aa LL).three ?_
      exact⟨rfl,(Aa LL).below⟩
   ·cases x
    ·go_enter func107,ntmps107
     go_wp2_with (first|go_skip|((with_reducible apply Bw);(case ho|hw|hx=>rfl);(case hc=>first|exact(Aa LL).one|exact(Aa LL).two);simp only[nn]))
     refine(Aa HC _ (Aj (Aa HT) (Aa LL).below)).mono ?_
     rintro _ w14 ⟨rfl,hb⟩
     replace LL:=Ab ((Aa LL).on hb)
     clear hb
     go_wp2_with (first|go_skip|((with_reducible apply Bw);(case ho|hw|hx=>rfl);(case hc=>first|exact(Aa LL).one|exact(Aa LL).two);simp only[nn]))
     refine(Aa HSt _ (Aj (Aa HT) (Aa LL).below)).mono ?_
     rintro _ w15 ⟨rfl,hb⟩
     replace LL:=Ab ((Aa LL).on hb)
     clear hb
     go_wp2_with (first|go_skip|((with_reducible apply Bw);(case ho|hw|hx=>rfl);(case hc=>first|exact(Aa LL).one|exact(Aa LL).two);simp only[nn]))
     refine(Aa HNo _).mono ?_
     rintro _ w16 ⟨rfl,hb⟩
     replace LL:=Ab ((Aa LL).on hb)
     clear hb
     go_wp2_with (first|go_skip|((with_reducible apply Kh (u:=zeroD) 2);(case ho|hw=>rfl);(case hL=>exact Aa LL);(case hi|hx|hy=>rfl);(intro X LX;simp only[nn];replace LL:=Ab LX;clear LX)))
     refine Og rfl rfl rfl rfl rfl (Aa LL).three ?_
     exact⟨rfl,(Aa LL).below⟩
    ·go_enter func107,ntmps107
     go_wp2_with (first|go_skip|((with_reducible apply Bw);(case ho|hw|hx=>rfl);(case hc=>first|exact(Aa LL).one|exact(Aa LL).two);simp only[nn]))
     refine(Aa HC _ (Aj (Aa HT) (Aa LL).below)).mono ?_
     rintro _ w11 ⟨rfl,hb⟩
     replace LL:=Ab ((Aa LL).on hb)
     clear hb
     go_wp2_with (first|go_skip|((with_reducible apply Bw);(case ho|hw|hx=>rfl);(case hc=>first|exact(Aa LL).one|exact(Aa LL).two);simp only[nn]))
     refine(Aa HSt _ (Aj (Aa HT) (Aa LL).below)).mono ?_
     rintro _ w12 ⟨rfl,hb⟩
     replace LL:=Ab ((Aa LL).on hb)
     clear hb
     go_wp2_with (first|go_skip|((with_reducible apply Bw);(case ho|hw|hx=>rfl);(case hc=>first|exact(Aa LL).one|exact(Aa LL).two);simp only[nn]))
     refine(Aa HNo _).mono ?_
     rintro _ w13 ⟨rfl,hb⟩
     replace LL:=Ab ((Aa LL).on hb)
     clear hb
     go_wp2_with (first|go_skip|((with_reducible apply Bw);(case ho|hw|hx=>rfl);(case hc=>first|exact(Aa LL).one|exact(Aa LL).two);simp only[nn]))
     refine(Aa HNo _).mono ?_
     rintro _ w14 ⟨rfl,hb⟩
     replace LL:=Ab ((Aa LL).on hb)
     clear hb
     go_wp2_with (first|go_skip|((with_reducible apply Bw);(case ho|hw|hx=>rfl);(case hc=>first|exact(Aa LL).one|exact(Aa LL).two);simp only[nn]))
     refine(Aa HFi _).mono ?_
     rintro _ w15 ⟨rfl,hb⟩
     replace LL:=Ab ((Aa LL).on hb)
     clear hb
     go_wp2_with (go_skip)
     refine(Aa HAf _).mono ?_
     rintro _ w16 ⟨rfl,hb⟩
     replace LL:=Ab ((Aa LL).on hb)
     clear hb
     go_wp2_with (first|go_skip|((with_reducible apply Kh 2);(case ho|hw=>rfl);(case hL=>exact Aa LL);(case hi|hx|hy=>rfl);(intro X LX;simp only[nn];replace LL:=Ab LX;clear LX)))
     refine Og rfl rfl rfl rfl rfl (Aa LL).three ?_
     exact⟨rfl,(Aa LL).below⟩
end
section
open Go Go.Proofs Go.RowKit FM
theorem zero_no (n:DD):ZdW n=noV n:=by
 unfold ZdW noV Ay
 have ee:(n.e==0)= !(n.e !=0):=(Bool.not_not _).symm
 have ec:(n.c==0)= !(n.c !=0):=(Bool.not_not _).symm
 have ew:(n.w==0)= !(n.w !=0):=(Bool.not_not _).symm
 rw[ee,ec,ew]
 generalize thV n.v=tv
 generalize thV n.g=tg
 generalize thV n.s=ts
 generalize (n.w !=0)=qa
 generalize (n.e !=0)=qe
 generalize (n.c !=0)=qc
 cases tv<;>cases qa<;>cases tg<;>cases ts<;>cases qe<;>cases qc<;>decide
theorem Xu {v:VV} (h:thV v=false):v=Av:=by
 unfold thV at h
 simp only[Bool.not_eq_false',Bool.and_eq_true,beq_iff_eq,Bool.not_eq_true'] at h
 obtain⟨k,b,x,s,i⟩:=v
 obtain⟨⟨⟨⟨rfl,rfl⟩,rfl⟩,hs⟩,rfl⟩:=h
 have:=Nz hs
 subst this
 rfl
theorem no_zero {n:DD} (h:noV n=true):n=zeroD:=by
 rw[←zero_no] at h
 unfold ZdW at h
 simp only[Bool.and_eq_true,Bool.not_eq_true',beq_iff_eq] at h
 obtain⟨v,g,s,a,e,c⟩:=n
 obtain⟨⟨⟨⟨⟨h1,h2⟩,h3⟩,h4⟩,h5⟩,h6⟩:=h
 have e1:=Xu h1
 have e2:=Xu h2
 have e3:=Xu h3
 dsimp only at e1 e2 e3 h4 h5 h6
 subst e1 e2 e3 h4 h5 h6
 rfl
def okF (v:VV):Prop:=(v.k !=0)=thV v/\(thV v=true->v.good=true)
theorem okV {d:DD} (h:Eh d=true):okF d.v:=by
 have hk:=(ZdP h).1
 unfold Eh at h
 simp only[Bool.and_eq_true,Bool.or_eq_true,Bool.not_eq_true'] at h
 refine⟨hk,fun ht=> ?_⟩
 rcases h.1.1.1.1.1 with h|h
 ·rw[ht] at h
  exact absurd h (by decide)
 ·exact h
theorem okC {v:VV} (h:Kt v=true):okF v:=by
 refine⟨(Zcs v).2 h,fun ht=> ?_⟩
 rw[(Zcs v).1,ht] at h
 unfold slotV at h
 simp at h
 exact h.1
theorem okG {d:DD} (h:Eh d=true):okF d.g:=by
 unfold Eh at h
 simp only[Bool.and_eq_true] at h
 exact okC h.1.1.1.1.2
theorem okS {d:DD} (h:Eh d=true):okF d.s:=by
 unfold Eh at h
 simp only[Bool.and_eq_true] at h
 exact okC h.1.1.1.2
theorem Nb {t a:Int} (h1:Oc t=true) (h2:Oc a=true):Oc (orT t a)=true:=by
 unfold orT
 cases (t !=0)
 ·exact h2
 ·exact h1
theorem Zai {n:DD} (hs:stV n=true) (hz:noV n=false):wholeV n=true:=by
 unfold stV at hs
 rw[hz] at hs
 simpa using hs
theorem Eu (a:DD):wholeV a=true↔Eh a=true/\(a.e !=0)=true/\(a.c !=0)=true/\((thV a.v=true/\(a.w !=0)=true/\thV a.g=false/\thV a.s=false)∨(thV a.g=true/\thV a.s=true/\thV a.v=false/\(a.w !=0)=false)):=by
 unfold wholeV Eo Ay
 generalize Eh a=sd
 generalize thV a.v=tv
 generalize thV a.g=tg
 generalize thV a.s=ts
 generalize (a.w !=0)=qa
 generalize (a.e !=0)=qe
 generalize (a.c !=0)=qc
 cases sd<;>cases tv<;>cases qa<;>cases tg<;>cases ts<;>cases qe<;>cases qc<;>decide
theorem Vh (d:DD): ¬Eo d=0↔Eh d=true/\(((thV d.v||d.w !=0) && (thV d.g||thV d.s))=false):=by
 unfold Eo Ay
 generalize Eh d=sd
 generalize thV d.v=tv
 generalize thV d.g=tg
 generalize thV d.s=ts
 generalize (d.w !=0)=qa
 cases sd<;>cases tv<;>cases qa<;>cases tg<;>cases ts<;>decide
structure Took (a d:DD):Prop where
 whole:wholeV a=true
 turn:turnV a d=false
 v:thV d.v=true->a.v=d.v
 g:thV d.g=true->a.g=d.g
 s:thV d.s=true->a.s=d.s
 w:(d.w !=0)=true->a.w=d.w
 e:(d.e !=0)=true->a.e=d.e
 c:(d.c !=0)=true->a.c=d.c
theorem Nf {v a:VV} (h:thV v=true):orV v a=v:=by unfold orV;rw[h];rfl
theorem Ro {v a:VV} (h:thV v=false):orV v a=a:=by unfold orV;rw[h];rfl
theorem Jo {v a:Int} (h:(v !=0)=true):orT v a=v:=by unfold orT;rw[h];rfl
theorem Zat {v a:Int} (h:(v !=0)=false):orT v a=a:=by unfold orT;rw[h];rfl
theorem Qi:thV Dh=true/\Dh.good=true/\Kt Dh=true:=⟨by kernel_rfl,by kernel_rfl,by kernel_rfl⟩
theorem Lw (v a:VV):thV (orV v a)=(thV v||thV a):=by
 cases h:thV v
 ·rw[Ro h];rfl
 ·rw[Nf h,h];rfl
theorem Ya (v a:Int):(orT v a !=0)=(v !=0||a !=0):=by
 cases h:(v !=0)
 ·rw[Zat h];rfl
 ·rw[Jo h,h];rfl
theorem Zdm {v a:VV} (h1:(!thV v||v.good)=true) (h2:(!thV a||a.good)=true):(!thV (orV v a)||(orV v a).good)=true:=by
 cases h:thV v
 ·rw[Ro h];exact h2
 ·rw[Nf h];exact h1
theorem Zad {v a:VV} (h1:Kt v=true) (h2:Kt a=true):Kt (orV v a)=true:=by
 cases h:thV v
 ·rw[Ro h];exact h2
 ·rw[Nf h];exact h1
theorem Et {d:DD} (h:Eh d=true):(!thV d.v||d.v.good)=true/\Kt d.g=true/\Kt d.s=true/\Oc d.w=true/\Oc d.e=true/\Oc d.c=true:=by
 unfold Eh at h
 simp only[Bool.and_eq_true] at h
 exact⟨h.1.1.1.1.1,h.1.1.1.1.2,h.1.1.1.2,h.1.1.2,h.1.2,h.2⟩
theorem Uo {d:DD} (h1:(!thV d.v||d.v.good)=true) (h2:Kt d.g=true) (h3:Kt d.s=true) (h4:Oc d.w=true) (h5:Oc d.e=true) (h6:Oc d.c=true):Eh d=true:=by
 unfold Eh
 rw[h1,h2,h3,h4,h5,h6]
 rfl
theorem ZbP {a d:DD} (hd:((thV d.v||d.w !=0) && (thV d.g||thV d.s))=false) (h1:(thV d.v||d.w !=0)=true->(thV a.v||a.w !=0)=true/\(thV a.g||thV a.s)=false) (h2:(thV d.g||thV d.s)=true->(thV a.g||thV a.s)=true/\(thV a.v||a.w !=0)=false):turnV a d=false:=by
 unfold turnV Ay
 generalize (thV d.v||d.w !=0)=p at *
 generalize (thV d.g||thV d.s)=q at *
 generalize (thV a.v||a.w !=0)=r at *
 generalize (thV a.g||thV a.s)=t at *
 revert hd h1 h2
 cases p<;>cases q<;>cases r<;>cases t<;>decide
theorem Zbi {d:DD} (h: ¬Eo d=0):Took (Js d) d:=by
 obtain⟨hs,hk⟩:=(Vh d).1 h
 obtain⟨p1,p2,p3,p4,p5,p6⟩:=Et hs
 have e1:(orT d.e 1 !=0)=true:=by rw[Ya];cases (d.e !=0)<;>rfl
 have e2:(orT d.c 1 !=0)=true:=by rw[Ya];cases (d.c !=0)<;>rfl
 have e3:(orT d.w 1 !=0)=true:=by rw[Ya];cases (d.w !=0)<;>rfl
 have u1: ∀v,thV (orV v Dh)=true:=fun v=>by rw[Lw,Qi.1,Bool.or_true]
 have gt:((thV d.g||thV d.s)=true/\(thV d.v||d.w !=0)=false/\Js d=⟨d.v,orV d.g Dh,orV d.s Dh,d.w,orT d.e 1,orT d.c 1⟩)∨((thV d.g||thV d.s)=false/\Js d=⟨orV d.v Dh,d.g,d.s,orT d.w 1,orT d.e 1,orT d.c 1⟩):=by
  unfold Js Ay
  generalize (thV d.v||d.w !=0)=p at *
  generalize (thV d.g||thV d.s)=q at *
  cases p<;>cases q
  ·exact Or.inr ⟨rfl,rfl⟩
  ·exact Or.inl ⟨rfl,rfl,rfl⟩
  ·exact Or.inr ⟨rfl,rfl⟩
  ·exact absurd hk (by decide)
 rcases gt with ⟨g1,g2,g3⟩|⟨g1,g3⟩
 ·have g2':=g2
  rw[Bool.or_eq_false_iff] at g2'
  rw[g3]
  refine⟨(Eu _).2 ⟨Uo p1 (Zad p2 Qi.2.2) (Zad p3 Qi.2.2) p4 (Nb p5 (by decide)) (Nb p6 (by decide)),e1,e2,Or.inr ⟨u1 _,u1 _,g2'.1,g2'.2⟩⟩,ZbP hk ?_ ?_,fun _=>rfl,fun k=>Nf k,fun k=>Nf k,fun _=>rfl,fun k=>Jo k,fun k=>Jo k⟩
  ·intro k
   rw[g2] at k
   exact absurd k (by decide)
  ·intro _
   refine⟨?_,g2⟩
   show (thV (orV d.g Dh)||thV (orV d.s Dh))=true
   rw[u1]
   rfl
 ·have g1':=g1
  rw[Bool.or_eq_false_iff] at g1'
  rw[g3]
  refine⟨(Eu _).2 ⟨Uo (Zdm p1 (by rw[Qi.2.1];exact Bool.or_true _)) p2 p3 (Nb p4 (by decide)) (Nb p5 (by decide)) (Nb p6 (by decide)),e1,e2,Or.inl ⟨u1 _,e3,g1'.1,g1'.2⟩⟩,ZbP hk ?_ ?_,fun k=>Nf k,fun _=>rfl,fun _=>rfl,fun k=>Jo k,fun k=>Jo k,fun k=>Jo k⟩
  ·intro _
   refine⟨?_,g1⟩
   show (thV (orV d.v Dh)||(orT d.w 1 !=0))=true
   rw[u1]
   rfl
  ·intro k
   rw[g1] at k
   exact absurd k (by decide)
theorem tri_ne {t a:Int} (h:(a !=0)=true):(orT t a !=0)=true:=by rw[Ya,h,Bool.or_true]
theorem ZcL {n d:DD} (hn:wholeV n=true) (h: ¬Eo d=0):Took (Ke n d) d:=by
 obtain⟨hs,hk⟩:=(Vh d).1 h
 obtain⟨p1,p2,p3,p4,p5,p6⟩:=Et hs
 obtain⟨ns,ne,nc,nn⟩:=(Eu n).1 hn
 obtain⟨q1,q2,q3,q4,q5,q6⟩:=Et ns
 cases ht:turnV n d
 ·have hb:Ke n d=⟨orV d.v n.v,orV d.g n.g,orV d.s n.s,orT d.w n.w,orT d.e n.e,orT d.c n.c⟩:=by
   unfold Ke
   rw[ht]
   rfl
  have sh:((thV d.v||d.w !=0)=true->thV n.v=true/\(n.w !=0)=true/\thV n.g=false/\thV n.s=false)/\((thV d.g||thV d.s)=true->thV n.g=true/\thV n.s=true/\thV n.v=false/\(n.w !=0)=false):=by
   unfold turnV Ay at ht
   generalize (thV d.v||d.w !=0)=p at *
   generalize (thV d.g||thV d.s)=q at *
   rcases nn with ⟨n1,n2,n3,n4⟩|⟨n1,n2,n3,n4⟩
   ·rw[n1,n2,n3,n4] at ht ⊢
    revert ht hk
    cases p<;>cases q<;>decide
   ·rw[n1,n2,n3,n4] at ht ⊢
    revert ht hk
    cases p<;>cases q<;>decide
  have hw:wholeV (Ke n d)=true:=by
   rw[hb]
   refine(Eu _).2 ⟨Uo (Zdm p1 q1) (Zad p2 q2) (Zad p3 q3) (Nb p4 q4) (Nb p5 q5) (Nb p6 q6),tri_ne ne,tri_ne nc, ?_⟩
   show (thV (orV d.v n.v)=true/\(orT d.w n.w !=0)=true/\thV (orV d.g n.g)=false/\thV (orV d.s n.s)=false)∨(thV (orV d.g n.g)=true/\thV (orV d.s n.s)=true/\thV (orV d.v n.v)=false/\(orT d.w n.w !=0)=false)
   rw[Lw,Lw,Lw,Ya]
   revert sh nn
   generalize thV d.v=a1
   generalize (d.w !=0)=a2
   generalize thV d.g=a3
   generalize thV d.s=a4
   generalize thV n.v=b1
   generalize (n.w !=0)=b2
   generalize thV n.g=b3
   generalize thV n.s=b4
   cases a1<;>cases a2<;>cases a3<;>cases a4<;>cases b1<;>cases b2<;>cases b3<;>cases b4<;>decide
  refine⟨hw, ?_, ?_, ?_, ?_, ?_, ?_, ?_⟩
  ·obtain⟨-, -, -,ww⟩:=(Eu _).1 hw
   refine ZbP hk ?_ ?_
   ·intro k
    obtain⟨k1,k2,k3,k4⟩:=sh.1 k
    rw[hb]
    show (thV (orV d.v n.v)||(orT d.w n.w !=0))=true/\(thV (orV d.g n.g)||thV (orV d.s n.s))=false
    rw[Lw,Lw,Lw,k1,k3,k4]
    rw[k] at hk
    revert hk
    generalize thV d.g=a3
    generalize thV d.s=a4
    cases a3<;>cases a4<;>simp
   ·intro k
    obtain⟨k1,k2,k3,k4⟩:=sh.2 k
    rw[hb]
    show (thV (orV d.g n.g)||thV (orV d.s n.s))=true/\(thV (orV d.v n.v)||(orT d.w n.w !=0))=false
    rw[Lw,Lw,Lw,Ya,k1,k3,k4]
    rw[k] at hk
    revert hk
    generalize thV d.v=a3
    generalize (d.w !=0)=a4
    cases a3<;>cases a4<;>simp
  ·intro k;rw[hb];exact Nf k
  ·intro k;rw[hb];exact Nf k
  ·intro k;rw[hb];exact Nf k
  ·intro k;rw[hb];exact Jo k
  ·intro k;rw[hb];exact Jo k
  ·intro k;rw[hb];exact Jo k
 ·have hb:Ke n d=Js ⟨d.v,d.g,d.s,d.w,orT d.e n.e,orT d.c n.c⟩:=by
   unfold Ke
   rw[ht]
   rfl
  have hk2: ¬Eo ⟨d.v,d.g,d.s,d.w,orT d.e n.e,orT d.c n.c⟩=0:=(Vh _).2 ⟨Uo p1 p2 p3 p4 (Nb p5 q5) (Nb p6 q6),hk⟩
  have T:=Zbi hk2
  rw[←hb] at T
  exact⟨T.whole,T.turn,T.v,T.g,T.s,T.w,fun k=>(T.e (by show (orT d.e n.e !=0)=true;rw[Jo k];exact k)).trans (Jo k),fun k=>(T.c (by show (orT d.c n.c !=0)=true;rw[Jo k];exact k)).trans (Jo k)⟩
theorem ZfY (x:Nat):Je x x=true:=by unfold Je;simp
theorem ZeL (v:VV):Eg Je v v=true:=by
 unfold Eg
 rw[ZfY]
 simp
theorem Uq {v:VV} (h:okF v):Ma v v=true:=by
 unfold Ma
 cases ht:thV v
 ·rfl
 ·rw[h.2 ht,ZeL]
  rfl
theorem ZdU {x y z:Nat} (h1:Je x y=true) (h2:Je y z=true):Je x z=true:=by
 unfold Je at *
 simp only[Bool.or_eq_true,Bool.and_eq_true,decide_eq_true_eq] at *
 rcases h1 with ⟨a,b⟩|rfl
 ·rcases h2 with ⟨c,d⟩|rfl
  ·exact Or.inl ⟨a,d⟩
  ·exact Or.inl ⟨a,b⟩
 ·exact h2
theorem ZdC {a b c:VV} (h1:Eg Je a b=true) (h2:Eg Je b c=true):Eg Je a c=true:=by
 unfold Eg at *
 simp only[Bool.and_eq_true,beq_iff_eq] at h1 h2 ⊢
 obtain⟨k1,r1⟩:=h1
 obtain⟨k2,r2⟩:=h2
 refine⟨k1.trans k2, ?_⟩
 by_cases h4:a.k=4
 ·rw[if_pos h4] at r1 ⊢
  rw[if_pos (k1▸h4)] at r2
  exact ZdU r1 r2
 ·rw[if_neg h4] at r1 ⊢
  rw[if_neg (k1▸h4)] at r2
  simp only[Bool.and_eq_true,beq_iff_eq] at r1 r2 ⊢
  exact⟨⟨r1.1.1.trans r2.1.1,r1.1.2.trans r2.1.2⟩,r1.2.trans r2.2⟩
theorem Xq {a b c:VV} (h1:Ma a b=true) (h2:Ma b c=true):Ma a c=true:=by
 unfold Ma at *
 cases ha:thV a<;>cases hb:thV b<;>cases hc:thV c<;>rw[ha,hb] at h1<;>rw[hb,hc] at h2<;>simp at h1 h2 ⊢
 exact⟨⟨h1.1.1,h2.1.2⟩,ZdC h1.2 h2.2⟩
theorem Za2 {x:Bool} {n d:DD} (h:Nj x n d=true): ¬Eo d=0/\Took (Dl x n d) d/\Jc n d=0:=by
 unfold Nj at h
 by_cases hk:Eo d=0
 ·simp[hk] at h
 ·have hk0:(Eo d==0)=false:=by simp[hk]
  rw[hk0] at h
  cases hst:stV n
  ·rw[hst] at h
   simp at h
  ·rw[hst] at h
   refine⟨hk, ?_,by unfold Jc;rw[hk0,hst];rfl⟩
   unfold Dl
   rw[hk0,hst]
   cases hno:noV n
   ·rw[hno] at h
    simp only[Bool.not_true,Bool.or_self,Bool.false_eq_true,if_false] at h ⊢
    have hf:(n.c==1 && Re n d)=false:=by
     cases hq:(n.c==1 && Re n d)
     ·rfl
     ·rw[hq] at h
      exact absurd h (by decide)
    rw[hf]
    simp only[Bool.false_eq_true,if_false]
    exact ZcL (Zai hst hno) hk
   ·rw[hno] at h
    simp only[Bool.not_true,Bool.or_self,Bool.false_eq_true,if_false,if_true] at h ⊢
    rw[h]
    exact Zbi hk
theorem ZfH {x:Bool} {n d:DD} (h:Jc n d=0) (hb:Nj x n d=false):Dl x n d=n:=by
 unfold Jc Nj Dl at *
 cases hq:(Eo d==0|| !stV n)
 ·rw[hq] at hb
  simp only[Bool.false_eq_true,if_false] at hb ⊢
  cases hno:noV n
  ·rw[hno] at hb
   simp only[Bool.false_eq_true,if_false,Bool.not_eq_false'] at hb ⊢
   rw[hb]
   rfl
  ·rw[hno] at hb
   simp only[if_true] at hb ⊢
   rw[hb]
   simp only[Bool.false_eq_true,if_false]
   exact(no_zero hno).symm
 ·rw[hq] at h
  exact absurd h (by decide)

theorem Zbw {v a:VV} (h1:v.x<2^64) (h2:a.x<2^64):(orV v a).x<2^64:=by
 unfold orV
 split
 ·exact h1
 ·exact h2
theorem Zfx {d:DD} (h:FD d):FD (Js d):=by
 unfold Js
 split
 ·exact⟨h.1,Zbw h.2.1 (by decide),Zbw h.2.2 (by decide)⟩
 ·exact⟨Zbw h.1 (by decide),h.2.1,h.2.2⟩
theorem fd_app (x:Bool) {n d:DD} (hn:FD n) (hd:FD d):FD (Dl x n d):=by
 have hz:FD zeroD:=by unfold FD;decide
 unfold Dl
 split
 ·exact hz
 ·split
  ·split
   ·exact Zfx hd
   ·exact hz
  ·split
   ·exact hn
   ·unfold Ke
    split
    ·exact Zfx hd
    ·exact⟨Zbw hd.1 hn.1,Zbw hd.2.1 hn.2.1,Zbw hd.2.2 hn.2.2⟩
end
section
open Go Go.Proofs Go.RowKit FM Tryz
section
variable {md : Region.Mode} {ops : Array Oper} {Q : Exit → Act → World → Prop} {w0 w : World} {l : List (Nat × PB)} {fuel : Nat} {listed : Array Bool} {a : Act} {o : Oper}
theorem Nq (i:Nat) (dst:Option Tmp) (v:Value) (hi:ops[i]? =some o) (hs:Region.noSelect ops=true) (hf:Region.free md ops listed i=true) (hr:(Region.ready md ops listed).contains i=true)
  (hQ: ∀c a w,Q (.panic c) (a.put dst v) w->Q (.panic c) a w) (hd:o.dst=dst) (hy:YieldsIf prog ops (fun X=>Kp w0 X l) o v a)
  (hS:Kp w0 w l) (h:wpAnyH prog md ops Q (fun X=>Kp w0 X l) fuel (listed.setIfInBounds i true) (a.put dst v) w):wpAnyH prog md ops Q (fun X=>Kp w0 X l) (fuel+1) listed a w:=by
 subst hd
 exact wpAnyH_take hi hs hf hr hQ hy hS h
theorem Zb (j:Nat) {x:Operand} {b:Nat} {d:DD} (hw:Region.wanted o (yielded ops a.tmps)=true) (ho:o.op= .load 41 x) (hx:a.eval x= .pointer (some ⟨b,16,none⟩)) (hl:l[j]? =some (b, .D d)):YieldsIf prog ops (fun X=>Kp w0 X l) o (.int .i64 d.e) a:=by
 refine Or.inl ⟨hw,fun X hX=> ?_⟩
 obtain⟨-,h0,h1,h2,h3,h4,h5,h6,h7,h8,h9,h10,h11,h12,h13,h14,h15,h16,h17⟩:=Kp.get hX j hl
 unfold execOp
 simp only[ho,hx]
 simp[go_sem,h16,isAgg41]
theorem Zdf (j:Nat) {x:Operand} {b:Nat} {d:DD} (hw:Region.wanted o (yielded ops a.tmps)=true) (ho:o.op= .load 41 x) (hx:a.eval x= .pointer (some ⟨b,17,none⟩)) (hl:l[j]? =some (b, .D d)):YieldsIf prog ops (fun X=>Kp w0 X l) o (.int .i64 d.c) a:=by
 refine Or.inl ⟨hw,fun X hX=> ?_⟩
 obtain⟨-,h0,h1,h2,h3,h4,h5,h6,h7,h8,h9,h10,h11,h12,h13,h14,h15,h16,h17⟩:=Kp.get hX j hl
 unfold execOp
 simp only[ho,hx]
 simp[go_sem,h17,isAgg41]
end
def Md (a b:DD):Bool:=if b.c !=1||b.e !=a.e||Ay b !=Ay a then false else if Ay a==3 then Ma a.g b.g && Ma a.s b.s else a.w==2||b.w==1 && Ma a.v b.v
def keepB (a b:DD):Bool:=if !stV a|| !stV b then false else if noV a||a.c==2 then true else Md a b
def Zfk (a b:DD):Int:=if !stV a|| !stV b then 5 else 0
theorem kept_any (a b:DD) (ha:FD a) (hb:FD b) (w:World) (hT:Lib.Utf8Tabs 1 2 w):Calls prog 101 #[a.agg,b.agg] w fun e w'=>e= .returned (.bool (Md a b))/\Below w.heap.size w w':=by
 have HT:=Ab hT
 clear hT
 have HA:=Ab (By a ha)
 have HB:=Ab (By b hb)
 have HV:=Ab (fun w hT=>Zb0 a.v b.v ha.1 hb.1 w hT)
 have HG:=Ab (fun w hT=>Zb0 a.g b.g ha.2.1 hb.2.1 w hT)
 have HS:=Ab (fun w hT=>Zb0 a.s b.s ha.2.2 hb.2.2 w hT)
 clear ha hb
 have LL:=Ab (Kp.of2 (Lie.new2 w (.D a) (.D b)))
 unfold Md
 generalize Ay a=sa at *
 generalize Ay b=sb at *
 generalize Ma a.v b.v=ev at *
 generalize Ma a.g b.g=eg at *
 generalize Ma a.s b.s=es at *
 generalize hq1:(b.c !=1)=q1 at *
 generalize hq2:(b.e !=a.e)=q2 at *
 generalize hq3:(sb !=sa)=q3 at *
 generalize hq4:(a.w==2)=q4 at *
 generalize hq5:(b.w==1)=q5 at *
 have hq0:=Ex a
 have hq1:=Ex b
 rw[hq0,hq1]
 clear hq0 hq1
 cases q1
 ·cases q2
  ·cases q3
   ·by_cases h3:sa=3
    ·subst h3
     go_enter func101,ntmps101
     go_wp2_with fail
     refine wp_region_held_drew (P:=prog) (S:=fun X=>Kp w X [(w.heap.size, .D a),(w.heap.size+1, .D b)]) (by kernel_rfl) (Kp.drew (Aa LL)) (fun hS0=> ?_)
     refine x0 0 (some 5) (.pointer (some ⟨w.heap.size+1,17,none⟩)) rfl hS0 ?_
     refine Nq 1 (some 6) (.int .i64 b.c) rfl (by kernel_rfl) (by kernel_rfl) (by kernel_rfl) (fun _ _ _ h=>h) (by kernel_rfl) (Zdf 1 (x:= .tmp 5) (b:=w.heap.size+1) (d:=b) (by kernel_rfl) (by kernel_rfl) (by kernel_rfl) rfl) hS0 ?_
     simp only[nn]
     refine Nu 2 (some 7) (.bool false) rfl (by kernel_rfl) (by kernel_rfl) (by kernel_rfl) (fun _ _ _ h=>h) (by kernel_rfl) (by kernel_rfl) (Yh (r:=(b.c !=1)) hq1 (fun _=>by kernel_rfl)) hS0 ?_
     simp only[nn]
     refine x0 3 (some 8) (.bool false) rfl hS0 ?_
     refine x0 4 (some 9) (.pointer (some ⟨w.heap.size+1,16,none⟩)) rfl hS0 ?_
     refine Nq 5 (some 10) (.int .i64 b.e) rfl (by kernel_rfl) (by kernel_rfl) (by kernel_rfl) (fun _ _ _ h=>h) (by kernel_rfl) (Zb 1 (x:= .tmp 9) (b:=w.heap.size+1) (d:=b) (by kernel_rfl) (by kernel_rfl) (by kernel_rfl) rfl) hS0 ?_
     simp only[nn]
     refine x0 6 (some 11) (.pointer (some ⟨w.heap.size,16,none⟩)) rfl hS0 ?_
     refine Nq 7 (some 12) (.int .i64 a.e) rfl (by kernel_rfl) (by kernel_rfl) (by kernel_rfl) (fun _ _ _ h=>h) (by kernel_rfl) (Zb 0 (x:= .tmp 11) (b:=w.heap.size) (d:=a) (by kernel_rfl) (by kernel_rfl) (by kernel_rfl) rfl) hS0 ?_
     simp only[nn]
     refine Nu 8 (some 13) (.bool false) rfl (by kernel_rfl) (by kernel_rfl) (by kernel_rfl) (fun _ _ _ h=>h) (by kernel_rfl) (by kernel_rfl) (Yh (r:=(b.e !=a.e)) hq2 (fun _=>by kernel_rfl)) hS0 ?_
     simp only[nn]
     refine x0 9 (some 14) (.bool false) rfl hS0 ?_
     refine x0 10 (some 15) (.bool false) rfl hS0 ?_
     refine x1 11 1 (some 16) (x:= .tmp 3) (b:=w.heap.size+1) (d:=b) rfl rfl hS0 ?_
     refine x1 13 0 (some 18) (x:= .tmp 2) (b:=w.heap.size) (d:=a) rfl rfl hS0 ?_
     refine x2 12 (some 17) rfl (Aa HB _) hS0 (fun uw1 hS1=> ?_)
     clear hS0
     simp only[nn]
     refine x2 14 (some 19) rfl (Aa HA _) hS1 (fun uw2 hS2=> ?_)
     clear hS1
     simp only[nn]
     refine Nu 15 (some 20) (.bool false) rfl (by kernel_rfl) (by kernel_rfl) (by kernel_rfl) (fun _ _ _ h=>h) (by kernel_rfl) (by kernel_rfl) (Yh (r:=(sb !=3)) hq3 (fun _=>by kernel_rfl)) hS2 ?_
     simp only[nn]
     refine x0 16 (some 21) (.bool false) rfl hS2 ?_
     refine dn ?_
     try simp only[nn]
     replace LL:=Ab hS2
     clear hS2
     go_wp2_with (first|go_skip|((with_reducible apply Bw);(case ho|hw|hx=>rfl);(case hc=>first|exact(Aa LL).get 0 rfl|exact(Aa LL).get 1 rfl);simp only[nn]))
     refine(Aa HA _).mono ?_
     rintro _ w31 ⟨rfl,hb⟩
     replace LL:=Ab ((Aa LL).on hb)
     clear hb
     go_wp2_with (first|go_skip|((with_reducible apply Vc);(case ho|hw|hx=>rfl);(case hc=>first|exact(Aa LL).get 0 rfl|exact(Aa LL).get 1 rfl);simp only[nn]))
     refine(Aa HG _ (Aj (Aa HT) (Aa LL).below)).mono ?_
     rintro _ w32 ⟨rfl,hb⟩
     replace LL:=Ab ((Aa LL).on hb)
     clear hb
     cases eg
     ·go_wp2_with (go_skip)
      go_ret
      exact⟨rfl,(Aa LL).below⟩
     ·go_wp2_with (first|go_skip|((with_reducible apply Vb);(case ho|hw|hx=>rfl);(case hc=>first|exact(Aa LL).get 0 rfl|exact(Aa LL).get 1 rfl);simp only[nn]))
      refine(Aa HS _ (Aj (Aa HT) (Aa LL).below)).mono ?_
      rintro _ w33 ⟨rfl,hb⟩
      replace LL:=Ab ((Aa LL).on hb)
      clear hb
      go_wp2_with (go_skip)
      go_ret
      exact⟨rfl,(Aa LL).below⟩
    ·have e3:(sa==3)=false:=by simp[h3]
     rw[e3]
     go_enter func101,ntmps101
     go_wp2_with fail
     refine wp_region_held_drew (P:=prog) (S:=fun X=>Kp w X [(w.heap.size, .D a),(w.heap.size+1, .D b)]) (by kernel_rfl) (Kp.drew (Aa LL)) (fun hS0=> ?_)
     refine x0 0 (some 5) (.pointer (some ⟨w.heap.size+1,17,none⟩)) rfl hS0 ?_
     refine Nq 1 (some 6) (.int .i64 b.c) rfl (by kernel_rfl) (by kernel_rfl) (by kernel_rfl) (fun _ _ _ h=>h) (by kernel_rfl) (Zdf 1 (x:= .tmp 5) (b:=w.heap.size+1) (d:=b) (by kernel_rfl) (by kernel_rfl) (by kernel_rfl) rfl) hS0 ?_
     simp only[nn]
     refine Nu 2 (some 7) (.bool false) rfl (by kernel_rfl) (by kernel_rfl) (by kernel_rfl) (fun _ _ _ h=>h) (by kernel_rfl) (by kernel_rfl) (Yh (r:=(b.c !=1)) hq1 (fun _=>by kernel_rfl)) hS0 ?_
     simp only[nn]
     refine x0 3 (some 8) (.bool false) rfl hS0 ?_
     refine x0 4 (some 9) (.pointer (some ⟨w.heap.size+1,16,none⟩)) rfl hS0 ?_
     refine Nq 5 (some 10) (.int .i64 b.e) rfl (by kernel_rfl) (by kernel_rfl) (by kernel_rfl) (fun _ _ _ h=>h) (by kernel_rfl) (Zb 1 (x:= .tmp 9) (b:=w.heap.size+1) (d:=b) (by kernel_rfl) (by kernel_rfl) (by kernel_rfl) rfl) hS0 ?_
     simp only[nn]
     refine x0 6 (some 11) (.pointer (some ⟨w.heap.size,16,none⟩)) rfl hS0 ?_
     refine Nq 7 (some 12) (.int .i64 a.e) rfl (by kernel_rfl) (by kernel_rfl) (by kernel_rfl) (fun _ _ _ h=>h) (by kernel_rfl) (Zb 0 (x:= .tmp 11) (b:=w.heap.size) (d:=a) (by kernel_rfl) (by kernel_rfl) (by kernel_rfl) rfl) hS0 ?_
     simp only[nn]
     refine Nu 8 (some 13) (.bool false) rfl (by kernel_rfl) (by kernel_rfl) (by kernel_rfl) (fun _ _ _ h=>h) (by kernel_rfl) (by kernel_rfl) (Yh (r:=(b.e !=a.e)) hq2 (fun _=>by kernel_rfl)) hS0 ?_
     simp only[nn]
     refine x0 9 (some 14) (.bool false) rfl hS0 ?_
     refine x0 10 (some 15) (.bool false) rfl hS0 ?_
     refine x1 11 1 (some 16) (x:= .tmp 3) (b:=w.heap.size+1) (d:=b) rfl rfl hS0 ?_
     refine x1 13 0 (some 18) (x:= .tmp 2) (b:=w.heap.size) (d:=a) rfl rfl hS0 ?_
     refine x2 12 (some 17) rfl (Aa HB _) hS0 (fun uw1 hS1=> ?_)
     clear hS0
     simp only[nn]
     refine x2 14 (some 19) rfl (Aa HA _) hS1 (fun uw2 hS2=> ?_)
     clear hS1
     simp only[nn]
     refine Nu 15 (some 20) (.bool false) rfl (by kernel_rfl) (by kernel_rfl) (by kernel_rfl) (fun _ _ _ h=>h) (by kernel_rfl) (by kernel_rfl) (Yh (r:=(sb !=sa)) hq3 (fun _=>by kernel_rfl)) hS2 ?_
     simp only[nn]
     refine x0 16 (some 21) (.bool false) rfl hS2 ?_
     refine dn ?_
     try simp only[nn]
     replace LL:=Ab hS2
     clear hS2
     go_wp2_with (first|go_skip|((with_reducible apply Bw);(case ho|hw|hx=>rfl);(case hc=>first|exact(Aa LL).get 0 rfl|exact(Aa LL).get 1 rfl);simp only[nn]))
     refine(Aa HA _).mono ?_
     rintro _ w34 ⟨rfl,hb⟩
     replace LL:=Ab ((Aa LL).on hb)
     clear hb
     cases q4
     ·cases q5
      ·go_wp2_with (first|go_skip|((with_reducible apply Jf);(case ho|hw|hx=>rfl);(case hc=>first|exact(Aa LL).get 0 rfl|exact(Aa LL).get 1 rfl);simp only[nn]))
       go_ret
       exact⟨rfl,(Aa LL).below⟩
      ·go_wp2_with (first|go_skip|((with_reducible apply Va);(case ho|hw|hx=>rfl);(case hc=>first|exact(Aa LL).get 0 rfl|exact(Aa LL).get 1 rfl);simp only[nn])|((with_reducible apply Jf);(case ho|hw|hx=>rfl);(case hc=>first|exact(Aa LL).get 0 rfl|exact(Aa LL).get 1 rfl);simp only[nn]))
       refine(Aa HV _ (Aj (Aa HT) (Aa LL).below)).mono ?_
       rintro _ w35 ⟨rfl,hb⟩
       replace LL:=Ab ((Aa LL).on hb)
       clear hb
       go_wp2_with (go_skip)
       go_ret
       exact⟨rfl,(Aa LL).below⟩
     ·go_wp2_with (first|go_skip|((with_reducible apply Jf);(case ho|hw|hx=>rfl);(case hc=>first|exact(Aa LL).get 0 rfl|exact(Aa LL).get 1 rfl);simp only[nn]))
      go_ret
      exact⟨rfl,(Aa LL).below⟩
   ·go_enter func101,ntmps101
    go_wp2_with fail
    refine wp_region_held_drew (P:=prog) (S:=fun X=>Kp w X [(w.heap.size, .D a),(w.heap.size+1, .D b)]) (by kernel_rfl) (Kp.drew (Aa LL)) (fun hS0=> ?_)
    refine x0 0 (some 5) (.pointer (some ⟨w.heap.size+1,17,none⟩)) rfl hS0 ?_
    refine Nq 1 (some 6) (.int .i64 b.c) rfl (by kernel_rfl) (by kernel_rfl) (by kernel_rfl) (fun _ _ _ h=>h) (by kernel_rfl) (Zdf 1 (x:= .tmp 5) (b:=w.heap.size+1) (d:=b) (by kernel_rfl) (by kernel_rfl) (by kernel_rfl) rfl) hS0 ?_
    simp only[nn]
    refine Nu 2 (some 7) (.bool false) rfl (by kernel_rfl) (by kernel_rfl) (by kernel_rfl) (fun _ _ _ h=>h) (by kernel_rfl) (by kernel_rfl) (Yh (r:=(b.c !=1)) hq1 (fun _=>by kernel_rfl)) hS0 ?_
    simp only[nn]
    refine x0 3 (some 8) (.bool false) rfl hS0 ?_
    refine x0 4 (some 9) (.pointer (some ⟨w.heap.size+1,16,none⟩)) rfl hS0 ?_
    refine Nq 5 (some 10) (.int .i64 b.e) rfl (by kernel_rfl) (by kernel_rfl) (by kernel_rfl) (fun _ _ _ h=>h) (by kernel_rfl) (Zb 1 (x:= .tmp 9) (b:=w.heap.size+1) (d:=b) (by kernel_rfl) (by kernel_rfl) (by kernel_rfl) rfl) hS0 ?_
    simp only[nn]
    refine x0 6 (some 11) (.pointer (some ⟨w.heap.size,16,none⟩)) rfl hS0 ?_
    refine Nq 7 (some 12) (.int .i64 a.e) rfl (by kernel_rfl) (by kernel_rfl) (by kernel_rfl) (fun _ _ _ h=>h) (by kernel_rfl) (Zb 0 (x:= .tmp 11) (b:=w.heap.size) (d:=a) (by kernel_rfl) (by kernel_rfl) (by kernel_rfl) rfl) hS0 ?_
    simp only[nn]
    refine Nu 8 (some 13) (.bool false) rfl (by kernel_rfl) (by kernel_rfl) (by kernel_rfl) (fun _ _ _ h=>h) (by kernel_rfl) (by kernel_rfl) (Yh (r:=(b.e !=a.e)) hq2 (fun _=>by kernel_rfl)) hS0 ?_
    simp only[nn]
    refine x0 9 (some 14) (.bool false) rfl hS0 ?_
    refine x0 10 (some 15) (.bool false) rfl hS0 ?_
    refine x1 11 1 (some 16) (x:= .tmp 3) (b:=w.heap.size+1) (d:=b) rfl rfl hS0 ?_
    refine x1 13 0 (some 18) (x:= .tmp 2) (b:=w.heap.size) (d:=a) rfl rfl hS0 ?_
    refine x2 12 (some 17) rfl (Aa HB _) hS0 (fun uw1 hS1=> ?_)
    clear hS0
    simp only[nn]
    refine x2 14 (some 19) rfl (Aa HA _) hS1 (fun uw2 hS2=> ?_)
    clear hS1
    simp only[nn]
    refine Nu 15 (some 20) (.bool true) rfl (by kernel_rfl) (by kernel_rfl) (by kernel_rfl) (fun _ _ _ h=>h) (by kernel_rfl) (by kernel_rfl) (Yh (r:=(sb !=sa)) hq3 (fun _=>by kernel_rfl)) hS2 ?_
    simp only[nn]
    refine x0 16 (some 21) (.bool true) rfl hS2 ?_
    refine dn ?_
    try simp only[nn]
    replace LL:=Ab hS2
    clear hS2
    go_wp2_with (go_skip)
    go_ret
    exact⟨rfl,(Aa LL).below⟩
  ·go_enter func101,ntmps101
   go_wp2_with fail
   refine wp_region_held_drew (P:=prog) (S:=fun X=>Kp w X [(w.heap.size, .D a),(w.heap.size+1, .D b)]) (by kernel_rfl) (Kp.drew (Aa LL)) (fun hS0=> ?_)
   refine x0 0 (some 5) (.pointer (some ⟨w.heap.size+1,17,none⟩)) rfl hS0 ?_
   refine Nq 1 (some 6) (.int .i64 b.c) rfl (by kernel_rfl) (by kernel_rfl) (by kernel_rfl) (fun _ _ _ h=>h) (by kernel_rfl) (Zdf 1 (x:= .tmp 5) (b:=w.heap.size+1) (d:=b) (by kernel_rfl) (by kernel_rfl) (by kernel_rfl) rfl) hS0 ?_
   simp only[nn]
   refine Nu 2 (some 7) (.bool false) rfl (by kernel_rfl) (by kernel_rfl) (by kernel_rfl) (fun _ _ _ h=>h) (by kernel_rfl) (by kernel_rfl) (Yh (r:=(b.c !=1)) hq1 (fun _=>by kernel_rfl)) hS0 ?_
   simp only[nn]
   refine x0 3 (some 8) (.bool false) rfl hS0 ?_
   refine x0 4 (some 9) (.pointer (some ⟨w.heap.size+1,16,none⟩)) rfl hS0 ?_
   refine Nq 5 (some 10) (.int .i64 b.e) rfl (by kernel_rfl) (by kernel_rfl) (by kernel_rfl) (fun _ _ _ h=>h) (by kernel_rfl) (Zb 1 (x:= .tmp 9) (b:=w.heap.size+1) (d:=b) (by kernel_rfl) (by kernel_rfl) (by kernel_rfl) rfl) hS0 ?_
   simp only[nn]
   refine x0 6 (some 11) (.pointer (some ⟨w.heap.size,16,none⟩)) rfl hS0 ?_
   refine Nq 7 (some 12) (.int .i64 a.e) rfl (by kernel_rfl) (by kernel_rfl) (by kernel_rfl) (fun _ _ _ h=>h) (by kernel_rfl) (Zb 0 (x:= .tmp 11) (b:=w.heap.size) (d:=a) (by kernel_rfl) (by kernel_rfl) (by kernel_rfl) rfl) hS0 ?_
   simp only[nn]
   refine Nu 8 (some 13) (.bool true) rfl (by kernel_rfl) (by kernel_rfl) (by kernel_rfl) (fun _ _ _ h=>h) (by kernel_rfl) (by kernel_rfl) (Yh (r:=(b.e !=a.e)) hq2 (fun _=>by kernel_rfl)) hS0 ?_
   simp only[nn]
   refine x0 9 (some 14) (.bool true) rfl hS0 ?_
   refine x0 10 (some 15) (.bool true) rfl hS0 ?_
   refine Kc 11 (some 16) rfl (by kernel_rfl) (by kernel_rfl) (by kernel_rfl) (fun _ _ _ h=>h) (by kernel_rfl) (by kernel_rfl) hS0 ?_
   simp only[nn]
   refine Kc 12 (some 17) rfl (by kernel_rfl) (by kernel_rfl) (by kernel_rfl) (fun _ _ _ h=>h) (by kernel_rfl) (by kernel_rfl) hS0 ?_
   simp only[nn]
   refine Kc 13 (some 18) rfl (by kernel_rfl) (by kernel_rfl) (by kernel_rfl) (fun _ _ _ h=>h) (by kernel_rfl) (by kernel_rfl) hS0 ?_
   simp only[nn]
   refine Kc 14 (some 19) rfl (by kernel_rfl) (by kernel_rfl) (by kernel_rfl) (fun _ _ _ h=>h) (by kernel_rfl) (by kernel_rfl) hS0 ?_
   simp only[nn]
   refine Kc 15 (some 20) rfl (by kernel_rfl) (by kernel_rfl) (by kernel_rfl) (fun _ _ _ h=>h) (by kernel_rfl) (by kernel_rfl) hS0 ?_
   simp only[nn]
   refine x0 16 (some 21) (.bool true) rfl hS0 ?_
   refine dn ?_
   try simp only[nn]
   replace LL:=Ab hS0
   clear hS0
   go_wp2_with (go_skip)
   go_ret
   exact⟨rfl,(Aa LL).below⟩
 ·go_enter func101,ntmps101
  go_wp2_with fail
  refine wp_region_held_drew (P:=prog) (S:=fun X=>Kp w X [(w.heap.size, .D a),(w.heap.size+1, .D b)]) (by kernel_rfl) (Kp.drew (Aa LL)) (fun hS0=> ?_)
  refine x0 0 (some 5) (.pointer (some ⟨w.heap.size+1,17,none⟩)) rfl hS0 ?_
  refine Nq 1 (some 6) (.int .i64 b.c) rfl (by kernel_rfl) (by kernel_rfl) (by kernel_rfl) (fun _ _ _ h=>h) (by kernel_rfl) (Zdf 1 (x:= .tmp 5) (b:=w.heap.size+1) (d:=b) (by kernel_rfl) (by kernel_rfl) (by kernel_rfl) rfl) hS0 ?_
  simp only[nn]
  refine Nu 2 (some 7) (.bool true) rfl (by kernel_rfl) (by kernel_rfl) (by kernel_rfl) (fun _ _ _ h=>h) (by kernel_rfl) (by kernel_rfl) (Yh (r:=(b.c !=1)) hq1 (fun _=>by kernel_rfl)) hS0 ?_
  simp only[nn]
  refine x0 3 (some 8) (.bool true) rfl hS0 ?_
  refine Kc 4 (some 9) rfl (by kernel_rfl) (by kernel_rfl) (by kernel_rfl) (fun _ _ _ h=>h) (by kernel_rfl) (by kernel_rfl) hS0 ?_
  simp only[nn]
  refine Kc 5 (some 10) rfl (by kernel_rfl) (by kernel_rfl) (by kernel_rfl) (fun _ _ _ h=>h) (by kernel_rfl) (by kernel_rfl) hS0 ?_
  simp only[nn]
  refine Kc 6 (some 11) rfl (by kernel_rfl) (by kernel_rfl) (by kernel_rfl) (fun _ _ _ h=>h) (by kernel_rfl) (by kernel_rfl) hS0 ?_
  simp only[nn]
  refine Kc 7 (some 12) rfl (by kernel_rfl) (by kernel_rfl) (by kernel_rfl) (fun _ _ _ h=>h) (by kernel_rfl) (by kernel_rfl) hS0 ?_
  simp only[nn]
  refine Kc 8 (some 13) rfl (by kernel_rfl) (by kernel_rfl) (by kernel_rfl) (fun _ _ _ h=>h) (by kernel_rfl) (by kernel_rfl) hS0 ?_
  simp only[nn]
  refine x0 9 (some 14) (.bool true) rfl hS0 ?_
  refine x0 10 (some 15) (.bool true) rfl hS0 ?_
  refine Kc 11 (some 16) rfl (by kernel_rfl) (by kernel_rfl) (by kernel_rfl) (fun _ _ _ h=>h) (by kernel_rfl) (by kernel_rfl) hS0 ?_
  simp only[nn]
  refine Kc 12 (some 17) rfl (by kernel_rfl) (by kernel_rfl) (by kernel_rfl) (fun _ _ _ h=>h) (by kernel_rfl) (by kernel_rfl) hS0 ?_
  simp only[nn]
  refine Kc 13 (some 18) rfl (by kernel_rfl) (by kernel_rfl) (by kernel_rfl) (fun _ _ _ h=>h) (by kernel_rfl) (by kernel_rfl) hS0 ?_
  simp only[nn]
  refine Kc 14 (some 19) rfl (by kernel_rfl) (by kernel_rfl) (by kernel_rfl) (fun _ _ _ h=>h) (by kernel_rfl) (by kernel_rfl) hS0 ?_
  simp only[nn]
  refine Kc 15 (some 20) rfl (by kernel_rfl) (by kernel_rfl) (by kernel_rfl) (fun _ _ _ h=>h) (by kernel_rfl) (by kernel_rfl) hS0 ?_
  simp only[nn]
  refine x0 16 (some 21) (.bool true) rfl hS0 ?_
  refine dn ?_
  try simp only[nn]
  replace LL:=Ab hS0
  clear hS0
  go_wp2_with (go_skip)
  go_ret
  exact⟨rfl,(Aa LL).below⟩
end
section
open Go Go.Proofs Go.Maps Go.RowKit FM
theorem Rh {t:Int} (h:Oc t=true) (h0:(t !=0)=true):t=1∨t=2:=by
 unfold Oc at h
 simp at h h0
 omega
theorem ZcJ {a:DD} (h:wholeV a=true):stV a=true/\noV a=false:=by
 refine⟨by unfold stV;rw[h,Bool.or_true], ?_⟩
 obtain⟨-,he, -, -⟩:=(Eu a).1 h
 unfold noV
 rw[he]
 simp
theorem app_st {x:Bool} {n d:DD} (h:Jc n d=0):stV (Dl x n d)=true:=by
 cases hb:Nj x n d
 ·rw[ZfH h hb]
  unfold Jc at h
  cases hq:(Eo d==0|| !stV n)
  ·rw[Bool.or_eq_false_iff] at hq
   simpa using hq.2
  ·rw[hq] at h
   exact absurd h (by decide)
 ·exact(ZcJ (Za2 hb).2.1.whole).1
theorem app_E {n d:DD} (h:Jc n d=0): ¬Eo d=0/\stV n=true:=by
 unfold Jc at h
 cases hq:(Eo d==0|| !stV n)
 ·rw[Bool.or_eq_false_iff] at hq
  exact⟨by simpa using hq.1,by simpa using hq.2⟩
 ·rw[hq] at h
  exact absurd h (by decide)
theorem bec_kept {a d:DD} (ha:wholeV a=true) (hd: ¬Eo d=0) (hc:a.c=1) (hf:Re a d=false):(Ke a d).c=1/\(Ke a d).e=a.e/\Ay (Ke a d)=Ay a/\(Ay a=3->Ma a.g (Ke a d).g=true/\Ma a.s (Ke a d).s=true/\(Ke a d).v=a.v/\(Ke a d).w=a.w)/\(¬Ay a=3->(Ke a d).g=a.g/\(Ke a d).s=a.s/\(a.w=1->(Ke a d).w=1/\Ma a.v (Ke a d).v=true)):=by
 obtain⟨hs,hk⟩:=(Vh d).1 hd
 obtain⟨p1,p2,p3,p4,p5,p6⟩:=Et hs
 obtain⟨ns,ne,nc,nn⟩:=(Eu a).1 ha
 have T:=ZcL ha hd
 obtain⟨-, -, -,bb⟩:=(Eu _).1 T.whole
 have ht:turnV a d=false:=by
  cases ht:turnV a d
  ·rfl
  ·unfold Re at hf
   rw[ht] at hf
   simp at hf
 have hb:Ke a d=⟨orV d.v a.v,orV d.g a.g,orV d.s a.s,orT d.w a.w,orT d.e a.e,orT d.c a.c⟩:=by
  unfold Ke
  rw[ht]
  rfl
 have sh:((thV d.v||d.w !=0)=true->Ay a=2)/\((thV d.g||thV d.s)=true->Ay a=3):=by
  unfold turnV Ay at ht
  unfold Ay
  generalize (thV d.v||d.w !=0)=p at *
  generalize (thV d.g||thV d.s)=q at *
  rcases nn with ⟨n1,n2,n3,n4⟩|⟨n1,n2,n3,n4⟩
  ·rw[n1,n2,n3,n4] at ht ⊢
   revert ht hk
   cases p<;>cases q<;>decide
  ·rw[n1,n2,n3,n4] at ht ⊢
   revert ht hk
   cases p<;>cases q<;>decide
 unfold Re at hf
 rw[ht] at hf
 have hq:(d.c==2||d.e !=0 && d.e !=a.e)=false:=by
  cases hq:(d.c==2||d.e !=0 && d.e !=a.e)
  ·rfl
  ·rw[hq] at hf
   simp at hf
 rw[hq] at hf
 rw[Bool.or_eq_false_iff] at hq
 simp only[Bool.or_false,Bool.false_eq_true,if_false] at hf
 have okn:=ns
 have dif: ∀(v u:VV),okF u->Zbf u v=false->Ma u (orV v u)=true:=fun v u o k=>by
  cases hv:thV v
  ·rw[Ro hv]
   exact Uq o
  ·rw[Nf hv]
   unfold Zbf at k
   rw[hv] at k
   simpa using k
 rw[hb]
 refine⟨?_, ?_, ?_, ?_, ?_⟩
 ·show orT d.c a.c=1
  cases h0:(d.c !=0)
  ·rw[Zat h0]
   exact hc
  ·rw[Jo h0]
   rcases Rh p6 h0 with h|h
   ·exact h
   ·rw[h] at hq
    exact absurd hq.1 (by decide)
 ·show orT d.e a.e=a.e
  cases h0:(d.e !=0)
  ·exact Zat h0
  ·rw[Jo h0]
   have:=hq.2
   rw[h0] at this
   simpa using this
 ·rw[←hb]
  have e1: ∀u:DD,wholeV u=true->Ay u=if thV u.v then 2 else 3:=fun u hu=>by
   obtain⟨-, -, -,k⟩:=(Eu u).1 hu
   unfold Ay
   rcases k with ⟨n1,n2,n3,n4⟩|⟨n1,n2,n3,n4⟩<;>rw[n1,n2,n3,n4]<;>rfl
  rw[e1 _ T.whole,e1 _ ha]
  rw[hb]
  show (if thV (orV d.v a.v) then (2:Int) else 3)=_
  rw[Lw]
  cases hv:thV d.v
  ·rfl
  ·have:=sh.1 (by rw[hv];rfl)
   rw[e1 _ ha] at this
   cases hav:thV a.v
   ·rw[hav] at this
    simp at this
   ·rfl
 ·intro h3
  simp only[h3,beq_self_eq_true,if_true,Bool.or_eq_false_iff] at hf
  have h0:(thV d.v||d.w !=0)=false:=by
   cases hx:(thV d.v||d.w !=0)
   ·rfl
   ·have:=sh.1 hx
    omega
  rw[Bool.or_eq_false_iff] at h0
  exact⟨dif _ _ (okG ns) hf.1,dif _ _ (okS ns) hf.2,Ro h0.1,Zat h0.2⟩
 ·intro h3
  have h0:(thV d.g||thV d.s)=false:=by
   cases hx:(thV d.g||thV d.s)
   ·rfl
   ·exact absurd (sh.2 hx) h3
  rw[Bool.or_eq_false_iff] at h0
  refine⟨Ro h0.1,Ro h0.2,fun h1=> ?_⟩
  have h3':(Ay a==3)=false:=by simpa using h3
  simp only[h3',h1,beq_self_eq_true,Bool.true_and,Bool.false_eq_true,if_false,Bool.or_eq_false_iff] at hf
  refine⟨?_,dif _ _ (okV ns) hf.2⟩
  show orT d.w a.w=1
  cases hw:(d.w !=0)
  ·rw[Zat hw]
   exact h1
  ·rw[Jo hw]
   rcases Rh p4 hw with h|h
   ·exact h
   ·rw[h] at hf
    exact absurd hf.1 (by decide)
theorem Zgb {a:DD} (ha:wholeV a=true) (hc:a.c=1):Md a a=true:=by
 obtain⟨ns,ne,nc,nn⟩:=(Eu a).1 ha
 obtain⟨q1,q2,q3,q4,q5,q6⟩:=Et ns
 unfold Md
 rw[hc,Uq (okG ns),Uq (okS ns),Uq (okV ns)]
 by_cases h3:Ay a=3
 ·simp[h3]
 ·rcases nn with ⟨n1,n2,n3,n4⟩|⟨n1,n2,n3,n4⟩
  ·rcases Rh q4 n2 with h|h<;>simp[h,h3]
  ·refine absurd ?_ h3
   unfold Ay
   rw[n1,n2,n3,n4]
   rfl
theorem Qo {a:DD} (h:stV a=true):keepB a a=true:=by
 unfold keepB
 rw[h]
 cases hno:noV a
 ·have ha:=Zai h hno
  obtain⟨ns,ne,nc,nn⟩:=(Eu a).1 ha
  rcases Rh (Et ns).2.2.2.2.2 nc with hc|hc
  ·rw[Zgb ha hc]
   simp
  ·rw[hc]
   rfl
 ·rfl
theorem Zgd {x:Bool} {a d:DD} (h:Jc a d=0):keepB a (Dl x a d)=true:=by
 obtain⟨hd,hst⟩:=app_E h
 have hst2:=app_st (x:=x) h
 cases hb:Nj x a d
 ·rw[ZfH h hb]
  exact Qo hst
 ·unfold keepB
  rw[hst,hst2]
  cases hno:noV a
  ·have ha:=Zai hst hno
   obtain⟨ns,ne,nc,nn⟩:=(Eu a).1 ha
   rcases Rh (Et ns).2.2.2.2.2 nc with hc|hc
   ·unfold Nj at hb
    have hk0:(Eo d==0)=false:=by simp[hd]
    rw[hk0,hst,hno] at hb
    simp only[Bool.not_true,Bool.or_self,Bool.false_eq_true,if_false,hc,beq_self_eq_true,Bool.true_and,Bool.not_eq_true'] at hb
    have he:Dl x a d=Ke a d:=by
     unfold Dl
     rw[hk0,hst,hno,hb]
     simp
    rw[he]
    obtain⟨k1,k2,k3,k4,k5⟩:=bec_kept ha hd hc hb
    unfold Md
    rw[k1,k2,k3]
    by_cases h3:Ay a=3
    ·obtain⟨j1,j2, -, -⟩:=k4 h3
     simp[h3,j1,j2]
    ·obtain⟨-, -,j⟩:=k5 h3
     rcases nn with ⟨n1,n2,n3,n4⟩|⟨n1,n2,n3,n4⟩
     ·rcases Rh (Et ns).2.2.2.1 n2 with h1|h1
      ·obtain⟨j1,j2⟩:=j h1
       simp[h3,j1,j2]
      ·simp[h3,h1]
     ·refine absurd ?_ h3
      unfold Ay
      rw[n1,n2,n3,n4]
      rfl
   ·rw[hc]
    rfl
  ·rfl
theorem Zef {a b c:DD} (h1:Md a b=true) (h2:Md b c=true):Md a c=true:=by
 have un: ∀a b:DD,Md a b=true->b.c=1/\b.e=a.e/\Ay b=Ay a/\(Ay a=3->Ma a.g b.g=true/\Ma a.s b.s=true)/\(¬Ay a=3->a.w=2∨b.w=1/\Ma a.v b.v=true):=fun a b h=>by
  unfold Md at h
  cases hq:(b.c !=1||b.e !=a.e||Ay b !=Ay a)
  ·rw[hq] at h
   simp only[Bool.or_eq_false_iff,bne_eq_false_iff_eq] at hq
   refine⟨hq.1.1,hq.1.2,hq.2,fun h3=> ?_,fun h3=> ?_⟩
   ·simpa [h3] using h
   ·simpa [h3] using h
  ·rw[hq] at h
   simp at h
 obtain⟨a1,a2,a3,a4,a5⟩:=un a b h1
 obtain⟨b1,b2,b3,b4,b5⟩:=un b c h2
 unfold Md
 rw[b1,b2,b3,a2,a3]
 by_cases h3:Ay a=3
 ·obtain⟨j1,j2⟩:=a4 h3
  obtain⟨i1,i2⟩:=b4 (a3.trans h3)
  simp[h3,Xq j1 i1,Xq j2 i2]
 ·have h3b: ¬Ay b=3:=fun k=>h3 (a3▸k)
  rcases a5 h3 with hw|⟨hw,hs⟩
  ·simp[h3,hw]
  ·rcases b5 h3b with hw2|⟨hw2,hs2⟩
   ·omega
   ·simp[h3,hw2,Xq hs hs2]
theorem Zeg {a b c:DD} (hc:stV c=true) (h1:keepB a b=true) (h2:keepB b c=true):keepB a c=true:=by
 unfold keepB at *
 cases ha:stV a
 ·rw[ha] at h1
  simp at h1
 ·cases hb:stV b
  ·rw[ha,hb] at h1
   simp at h1
  ·rw[ha,hb] at h1
   rw[hb,hc] at h2
   rw[hc]
   simp only[Bool.not_true,Bool.or_self,Bool.false_eq_true,if_false] at h1 h2 ⊢
   cases hq:(noV a||a.c==2)
   ·rw[hq] at h1
    simp only[Bool.false_eq_true,if_false] at h1 ⊢
    have hbc:b.c=1:=by
     unfold Md at h1
     cases hq:(b.c !=1||b.e !=a.e||Ay b !=Ay a)
     ·simp only[Bool.or_eq_false_iff,bne_eq_false_iff_eq] at hq
      exact hq.1.1
     ·rw[hq] at h1
      simp at h1
    have hn:(noV b||b.c==2)=false:=by
     unfold noV
     rw[hbc]
     simp
    rw[hn] at h2
    exact Zef h1 h2
   ·rfl

end
section
open Go Go.Proofs Go.RowKit FM
theorem Zgc (a b:DD) (ha:FD a) (hb:FD b) (w:World) (hT:Lib.Utf8Tabs 1 2 w):Calls Tryz.prog 52 #[a.agg,b.agg] w fun e w'=>e= .returned (.tuple #[.bool (keepB a b), .int .i64 (Zfk a b)])/\Below w.heap.size w w':=by
 have HT:=Ab hT
 clear hT
 have HA:=Ab (fun w hT=>Ri a ha w hT)
 have HB:=Ab (fun w hT=>Ri b hb w hT)
 have HN:=Ab (Pn a ha)
 have HK:=Ab (fun w hT=>kept_any a b ha hb w hT)
 clear ha hb
 have LL:=Ab (Lie.new2 w (.D a) (.D b))
 unfold keepB Zfk
 generalize stV a=sa at *
 generalize stV b=sb at *
 generalize noV a=no at *
 generalize Md a b=kt at *
 generalize hq:(a.c==2)=q at *
 have hq0:=Ex a
 have hq1:=Ex b
 rw[hq0,hq1]
 clear hq0 hq1
 go_enter Tryz.func52,Tryz.ntmps52
 go_wp2_with (first|go_skip|((first|((with_reducible apply Bw);(case ho|hw=>rfl);(case hx=>rfl))|((with_reducible apply Dt);(case ho|hw=>rfl);(case hx=>rfl)));(case hc=>first|exact(Aa LL).one|exact(Aa LL).two);simp only[nn]))
 refine(Aa HA _ (Aj (Aa HT) (Aa LL).below)).mono ?_
 rintro _ w11 ⟨rfl,hb⟩
 replace LL:=Ab ((Aa LL).on hb)
 clear hb
 cases sa
 ·go_wp2_with (go_skip)
  go_ret2
  exact⟨rfl,(Aa LL).below⟩
 ·go_wp2_with (first|go_skip|((first|((with_reducible apply Bw);(case ho|hw=>rfl);(case hx=>rfl))|((with_reducible apply Dt);(case ho|hw=>rfl);(case hx=>rfl)));(case hc=>first|exact(Aa LL).one|exact(Aa LL).two);simp only[nn]))
  refine(Aa HB _ (Aj (Aa HT) (Aa LL).below)).mono ?_
  rintro _ w12 ⟨rfl,hb⟩
  replace LL:=Ab ((Aa LL).on hb)
  clear hb
  cases sb
  ·go_wp2_with (go_skip)
   go_ret2
   exact⟨rfl,(Aa LL).below⟩
  ·go_wp2_with (first|go_skip|((first|((with_reducible apply Bw);(case ho|hw=>rfl);(case hx=>rfl))|((with_reducible apply Dt);(case ho|hw=>rfl);(case hx=>rfl)));(case hc=>first|exact(Aa LL).one|exact(Aa LL).two);simp only[nn]))
   refine(Aa HN _).mono ?_
   rintro _ w13 ⟨rfl,hb⟩
   replace LL:=Ab ((Aa LL).on hb)
   clear hb
   cases no
   ·cases q
    ·go_wp2_with (first|go_skip|((first|((with_reducible apply Bw);(case ho|hw=>rfl);(case hx=>rfl))|((with_reducible apply Dt);(case ho|hw=>rfl);(case hx=>rfl)));(case hc=>first|exact(Aa LL).one|exact(Aa LL).two);simp only[nn]))
     refine(Aa HK _ (Aj (Aa HT) (Aa LL).below)).mono ?_
     rintro _ w14 ⟨rfl,hb⟩
     replace LL:=Ab ((Aa LL).on hb)
     clear hb
     go_wp2_with (go_skip)
     go_ret2
     exact⟨rfl,(Aa LL).below⟩
    ·go_wp2_with (first|go_skip|((first|((with_reducible apply Bw);(case ho|hw=>rfl);(case hx=>rfl))|((with_reducible apply Dt);(case ho|hw=>rfl);(case hx=>rfl)));(case hc=>first|exact(Aa LL).one|exact(Aa LL).two);simp only[nn]))
     go_ret2
     exact⟨rfl,(Aa LL).below⟩
   ·go_wp2_with (go_skip)
    go_ret2
    exact⟨rfl,(Aa LL).below⟩
end
section
open Go Go.Proofs
def runN (nx:Nat->Option Nat):Nat->Nat->Option Nat
 |0,i=>some i
 |k+1,i=>(nx i).bind (runN nx k)
def ZaS (nx:Nat->Option Nat):Nat->Nat->Bool
 |0,_=>false
 |f+1,i=>match nx i with
  |none=>true
  |some j=>ZaS nx f j
theorem php: ∀(n:Nat) (f:Nat->Nat),(∀i,i<=n->f i<n)-> ∃a b,a<b/\b<=n/\f a=f b
 |0,f,h=>absurd (h 0 (Nat.le_refl 0)) (Nat.not_lt_zero _)
 |n+1,f,h=>by
  by_cases hh: ∃a,a<n+1/\f a=f (n+1)
  ·obtain⟨a,ha,e⟩:=hh
   exact⟨a,n+1,ha,Nat.le_refl _,e⟩
  ·have hne: ∀a,a<n+1->f a≠f (n+1):=fun a ha e=>hh ⟨a,ha,e⟩
   obtain⟨a,b,hab,hb,e⟩:=php n (fun i=>if f i=n then f (n+1) else f i) (fun i hi=>by
    have h1:=h i (by omega)
    have h2:=h (n+1) (Nat.le_refl _)
    have h3:=hne i (by omega)
    show (if f i=n then f (n+1) else f i)<n
    by_cases hc:f i=n
    ·rw[if_pos hc]
     omega
    ·rw[if_neg hc]
     omega)
   refine⟨a,b,hab,by omega, ?_⟩
   have h3:=hne a (by omega)
   have h4:=hne b (by omega)
   have e':(if f a=n then f (n+1) else f a)=(if f b=n then f (n+1) else f b):=e
   by_cases ha:f a=n
   ·rw[if_pos ha] at e'
    by_cases hb':f b=n
    ·omega
    ·rw[if_neg hb'] at e'
     omega
   ·rw[if_neg ha] at e'
    by_cases hb':f b=n
    ·rw[if_pos hb'] at e'
     omega
    ·rw[if_neg hb'] at e'
     exact e'
section
variable {nx : Nat → Option Nat} {n : Nat}
theorem Ky: ∀(k m i:Nat),runN nx (k+m) i=(runN nx k i).bind (runN nx m)
 |0,m,i=>by simp[runN]
 |k+1,m,i=>by
  rw[show k+1+m=(k+m)+1 by omega,runN,runN]
  cases nx i with
  |none=>rfl
  |some j=>exact Ky k m j
theorem Zb1 (hb: ∀i j,i<n->nx i=some j->j<n): ∀(k i:Nat) {j:Nat},i<n->runN nx k i=some j->j<n
 |0,i,j,hi,h=>by
  simp only[runN,Option.some.injEq] at h
  omega
 |k+1,i,j,hi,h=>by
  rw[runN] at h
  cases e:nx i with
  |none=>
   rw[e] at h
   cases h
  |some q=>
   rw[e] at h
   exact Zb1 hb k q (hb i q hi e) h
theorem ZaR: ∀(f i:Nat),ZaS nx f i=true->runN nx f i=none
 |0,i,h=>by cases h
 |f+1,i,h=>by
  rw[ZaS] at h
  rw[runN]
  cases e:nx i with
  |none=>rfl
  |some j=>
   rw[e] at h
   exact ZaR f j h
theorem ZaQ: ∀(f i:Nat),ZaS nx f i=false-> ∃j,runN nx f i=some j
 |0,i,h=>⟨i,rfl⟩
 |f+1,i,h=>by
  rw[ZaS] at h
  rw[runN]
  cases e:nx i with
  |none=>
   rw[e] at h
   cases h
  |some j=>
   rw[e] at h
   exact ZaQ f j h
theorem Zv {k m i:Nat} (h:runN nx (k+m) i≠none):runN nx k i≠none:=by
 intro e
 rw[Ky,e] at h
 exact h rfl
theorem Zbl {p q:Nat} (hp:1<=p) (h:runN nx p q=some q): ∀k,runN nx k q≠none:=by
 have hm: ∀c,runN nx (c * p) q=some q:=by
  intro c
  induction c with
  |zero=>simp[runN]
  |succ c ih=>
   rw[Nat.succ_mul,Ky,ih]
   exact h
 intro k
 have h1:runN nx (k * p) q≠none:=by
  rw[hm k]
  exact fun h=>by cases h
 have h2:k<=k * p:=Nat.le_mul_of_pos_right k (by omega)
 obtain⟨d,hd⟩:=Nat.exists_eq_add_of_le h2
 rw[hd] at h1
 exact Zv h1
def tB (nx:Nat->Option Nat) (n i:Nat):Bool:=ZaS nx (n+1) i
theorem ZbT (hb: ∀i j,i<n->nx i=some j->j<n) {i:Nat} (hi:i<n):tB nx n i=true↔ ∃k,runN nx k i=none:=by
 refine⟨fun h=>⟨n+1,ZaR _ _ h⟩,fun ⟨k,hk⟩=> ?_⟩
 cases hc:tB nx n i with
 |true=>rfl
 |false=>
  exfalso
  obtain⟨z,hz⟩:=ZaQ _ _ hc
  have hall: ∀a,a<=n-> ∃y,runN nx a i=some y/\y<n:=by
   intro a ha
   cases e:runN nx a i with
   |none=>
    have h0:runN nx (a+(n+1 - a)) i≠none:=by
     rw[show a+(n+1 - a)=n+1 by omega,hz]
     exact fun h=>by cases h
    exact absurd e (Zv h0)
   |some y=>exact⟨y,rfl,Zb1 hb a i hi e⟩
  obtain⟨a,b,hab,hbn,e⟩:=php n (fun a=>((runN nx a i).getD 0)) (fun a ha=>by
   obtain⟨y,hy,hy2⟩:=hall a ha
   show (runN nx a i).getD 0<n
   rw[hy]
   exact hy2)
  obtain⟨y,hy,_⟩:=hall a (by omega)
  obtain⟨y',hy',_⟩:=hall b hbn
  have e2:y=y':=by
   have e1:(runN nx a i).getD 0=(runN nx b i).getD 0:=e
   rw[hy,hy'] at e1
   exact e1
  subst e2
  have hp:runN nx (b - a) y=some y:=by
   have h1:=Ky (nx:=nx) a (b - a) i
   rw[show a+(b - a)=b by omega,hy',hy] at h1
   exact h1.symm
  have h2:=Zbl (by omega) hp k
  have h3:runN nx (a+k) i≠none:=by
   rw[Ky,hy]
   exact h2
  rw[show a+k=k+a by omega] at h3
  exact Zv h3 hk
theorem tB_none {i:Nat} (h:nx i=none):tB nx n i=true:=by
 unfold tB
 rw[ZaS,h]
theorem ZdN (hb: ∀i j,i<n->nx i=some j->j<n) {k i j:Nat} (hi:i<n) (h:runN nx k i=some j):tB nx n i=tB nx n j:=by
 have hj:=Zb1 hb k i hi h
 have:tB nx n i=true↔tB nx n j=true:=by
  rw[ZbT hb hi,ZbT hb hj]
  constructor
  ·rintro⟨m,hm⟩
   refine⟨m, ?_⟩
   cases e:runN nx m j with
   |none=>rfl
   |some z=>
    have h1:runN nx (k+m) i≠none:=by
     rw[Ky,h]
     show runN nx m j≠none
     rw[e]
     exact fun h=>by cases h
    rw[show k+m=m+k by omega] at h1
    exact absurd hm (Zv h1)
  ·rintro⟨m,hm⟩
   exact⟨k+m,by rw[Ky,h];exact hm⟩
 cases h1:tB nx n i<;>cases h2:tB nx n j<;>simp_all
theorem tB_round (hb: ∀i j,i<n->nx i=some j->j<n) {p q:Nat} (hq:q<n) (hp:1<=p) (h:runN nx p q=some q):tB nx n q=false:=by
 cases e:tB nx n q with
 |false=>rfl
 |true=>
  obtain⟨k,hk⟩:=(ZbT hb hq).1 e
  exact absurd hk (Zbl hp h k)
theorem ZcX {k i j z:Nat} (h:runN nx k i=some j) (hj:nx j=some z):runN nx (k+1) i=some z:=by
 rw[Ky,h]
 show runN nx 1 j=some z
 rw[runN,hj]
 rfl
end
