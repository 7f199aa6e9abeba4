import Derived.Test.YtfefpbjkbmaicaaGreatDoorRx
set_option linter.all false
namespace Go.Proofs.YtfefpbjkbmaicaaGreatDoor
set_option maxRecDepth 100000
set_option maxHeartbeats 0
section
open Go Go.Proofs Go.Maps Go.RowKit FM Tryz
attribute [local go_sem] Av Ap Dv Du De Au Ao Az Dd Gu Gt
theorem chk_dv {d:DD} (hc:Eh d=0) (hk:d.v.k≠0):d.v.s.size<=1048576:=ZaJ (by
 have h:=(Px hc).2.1
 unfold Gf at h
 rw[Qb hk] at h
 simp at h
 exact h.1.1.1.1.1)
theorem Yq (A NA:Option Addr) (c nc:Nat) (vs:List VV) (ns:List ByteArray) (n:Int) (d:DD) (v:VV) (w:World) (h6:6<=w.heap.size) (hT:Tabs w) (hR:ReadsV w A vs) (hN:Lh w NA ns) (hz1:vs.length<=9223372036854775806) (hz2:ns.length<=9223372036854775806) (hX: ∀(i:Nat) (v:VV),vs[i]? =some v->v.x<2^64) (hFd:FD d) (hvx:v.x<2^64) (hwf:(Lit.int .i64 n).wf=true):Calls prog 3 #[.slice A vs.length c, .slice NA ns.length nc, .int .i64 n,d.agg,v.agg] w fun e w'=>e= .returned (.bool true)/\Below w.heap.size w w':=by
 have SS:=Ac (Sy.nil w [])
 have HT:=Ac hT
 have HR:=Ac hR
 have HN:=Ac hN
 have HX:=Ac hX
 have H6:=Ac h6
 clear hT hR hN hX h6
 rw[Em,Dk]
 go_enter func3,ntmps3
 go_wp2_with (first|go_skip|((with_reducible show wpList ..);first|(refine zB 29 (d.cs) (by rfl) rfl rfl rfl SS ?_;clear SS;intro Xd Bd SS;simp only[nn])|(refine zB 26 (v.cs) (by rfl) rfl rfl rfl SS ?_;clear SS;intro Xv Bv SS;simp only[nn])))
 refine(awake_h _ (Nat.le_trans (Aa H6) (Aa SS).fr.size) (Eu (Aa HT) (Aa SS).fr)).mono ?_
 rintro _ Y0 ⟨rfl,hb⟩
 replace SS:=Ac ((Aa SS).on hb)
 clear hb
 go_wp2_with fail
 go_loopg [11] 4 (fun gm s11 wr=> ∃t:Nat,s11= .int .i64 (t:Nat)/\t<=4/\4 - t<=gm/\Hid (Sy w wr [] [Al Bd d.cs,Al Bv v.cs]))
 case atStart=>exact⟨0,rfl,by omega,by omega,SS⟩
 case round=>
  clear SS
  obtain⟨t,rfl,htl,hgm,SS⟩:=hrel
  by_cases hlt:t<4
  ·have dlt:decide ((t:Int)<4)=true:=decide_eq_true (by omega)
   go_wp2_with fail
   refine(new_f _ (Nat.le_trans (Aa H6) (Aa SS).fr.size)).mono ?_
   rintro _ X1 ⟨B0,rfl,hI,hB0,hb⟩
   replace SS:=Ac (new_sy (Aa SS) hI hB0 hb)
   clear hI hb hB0
   go_wp2_with (first|go_skip|((with_reducible show wpList ..);first|(refine rd rfl (ZbE rfl) ?_)|(refine zA 26 (Bz.cs) (by rfl) rfl SS ?_;clear SS;intro Xn Bn SS;simp only[nn])|(refine zS (Ag.cs) 3 26 (by rfl) rfl rfl rfl rfl (Eb _) szV SS rfl ?_;clear SS;intro X1 SS;simp only[nn])|(refine zL (Ag.cs) 26 5 3 rwV szV (by rfl) rfl rfl SS rfl rfl rfl ?_;simp only[nn])))
   have HM:=lmap B0 A NA c nc vs ns w
   rw[Dk] at HM
   refine(HM _ _ (Aa SS) rfl (Aa HT) (Aa HR) (Aa HN) hz1 hz2 (Aa HX)).mono ?_
   clear HM
   rintro e Y1 (⟨c9,rfl,TM⟩|⟨h,q,p,rfl,F,TM⟩)
   ·replace SS:=Ac ((Aa SS).heap 2 rfl TM)
    clear TM
    go_wp2_with fail
    go_ret
    exact⟨rfl,(Aa SS).fr.below⟩
   ·replace SS:=Ac ((Aa SS).heap 2 rfl TM)
    clear TM
    go_wp2_with fail
    cases hF:p.tF n with
    |none=>
     have HL:=Kd h 0 q p n
     rw[F.b,show ((0:Nat):Int)+1=1 from rfl] at HL
     refine(HL _ ((Aa SS).hp 2 rfl) F.o.len F.o.hj F.o.ow F.o.e hwf hF).mono ?_
     clear HL
     rintro _ Y1 ⟨rfl,hb⟩
     replace SS:=Ac ((Aa SS).on hb)
     clear hb
     go_wp2_with fail
     go_ret
     exact⟨rfl,(Aa SS).fr.below⟩
    |some m=>
     obtain⟨i,a,rfl,MM,hpF,hns⟩:=F.tie n m hF
     have has:=ZaJ MM.ug
     have hi32:i<=4294967295:=by have:=MM.i1;omega
     have hla:q.T.last<=1900:=by have:=F.la;omega
     have HL:=Lv h 0 q p (i:Int) m a
     rw[F.b,show ((0:Nat):Int)+1=1 from rfl] at HL
     refine(HL _ ((Aa SS).hp 2 rfl) F.o.len F.o.hj F.o.ow F.o.e hwf hF MM.pl hns).mono ?_
     clear HL
     rintro _ Y1 ⟨rfl,hb⟩
     replace SS:=Ac ((Aa SS).on hb)
     clear hb
     go_wp2_with (first|go_skip|((with_reducible show wpList ..);first|(refine rd rfl (Za0 rfl rfl hi32) ?_)))
     have HFI:=Nc i hi32
     rw[show (⟨Ou i,0⟩:KK)=idxK i from rfl,Ec] at HFI
     refine(HFI _ (Eu (Aa HT) (Aa SS).fr).2).mono ?_
     clear HFI
     rintro _ Y1 ⟨rfl,hb⟩
     replace SS:=Ac ((Aa SS).on hb)
     clear hb
     go_wp2_with (first|go_skip|((with_reducible show wpList ..);first|(refine zA 42 (Mk.cs) (by rfl) rfl SS ?_;clear SS;intro Xk Bk SS;simp only[nn])|(refine zS ((idxK i).cs) 4 42 (by rfl) rfl rfl rfl rfl (oneK _) szK SS rfl ?_;clear SS;intro X3 SS;simp only[nn])))
     have HL:=Ju h 0 q p a.n m a
     rw[F.b,show ((0:Nat):Int)+1=1 from rfl,Dk] at HL
     refine(HL _ ((Aa SS).hp 2 rfl) F.o.len F.o.hj F.o.ow F.o.e hns hpF MM.pl has).mono ?_
     clear HL
     rintro _ Y1 ⟨rfl,hb⟩
     replace SS:=Ac ((Aa SS).on hb)
     clear hb
     obtain rfl|rfl|rfl|rfl:t=0∨t=1∨t=2∨t=3:=by omega
     ·rw[show ((0:Nat):Int)=0 from rfl]
      clear hlt dlt
      as_aux_lemma=>
       go_wp2_with (first|go_skip|((with_reducible show wpList ..);first|(refine zA 26 (Bz.cs) (by rfl) rfl SS ?_;clear SS;intro Xu Bu SS;simp only[nn])|(refine zS (a.v.cs) 5 26 (by rfl) rfl rfl rfl rfl (Eb _) szV SS rfl ?_;clear SS;intro X4 SS;simp only[nn])|(refine zL ((idxK i).cs) 42 2 4 rwK szK (by rfl) rfl rfl SS rfl rfl rfl ?_;simp only[nn])|(refine zL (d.cs) 29 18 0 rwD szD (by rfl) rfl rfl SS rfl rfl rfl ?_;simp only[nn])))
       have HD:=ddef h q p i m a a.v d
       rw[F.b] at HD
       simp only[Ec,Em] at HD
       refine(HD _ ((Aa SS).hp 2 rfl) (Eu (Aa HT) (Aa SS).fr) F.k MM (by rw[F.f];decide) (by rw[F.ent,F.dep];decide) (by rw[F.ent,F.dep];decide) hFd).mono ?_
       clear HD
       rintro _ Y3 ⟨h1,y,er,rfl,hE,TD⟩
       have hb1:h1.b=B0:=TD.hb.trans F.b
       replace SS:=Ac ((Aa SS).heap 2 rfl TD)
       clear TD
       replace SS:Hid (Sy w _ [] [Al Bd d.cs,Al Bv v.cs,hpO h1,Al Bn Ag.cs,Al Bk (idxK i).cs,Al Bu a.v.cs]):=SS
       rcases hE with hE|hE
       ·obtain⟨c9,rfl, -, -,rfl⟩:=hE
        unfold La
        go_wp2_with (first|go_skip|((with_reducible show wpList ..);first|(refine zL (d.cs) 29 18 0 rwD szD (by rfl) rfl rfl SS rfl rfl rfl ?_;simp only[nn])))
        cases hra:Rq d
        ·have HA:=Xq d hFd
         rw[hra,Em] at HA
         refine(HA _).mono ?_
         clear HA
         rintro _ Y4 ⟨rfl,hb⟩
         replace SS:=Ac ((Aa SS).on hb)
         clear hb
         cases hw1:decide (d.w=1)
         ·by_cases hk0:d.v.k=0
          ·as_aux_lemma=>
            go_wp2_with (first|go_skip|((with_reducible show wpList ..);first|(refine rd rfl (Aj 27 isAgg27 rfl rfl ((Aa SS).hold 0 rfl) rfl) ?_)|(refine rd rfl (Ge rfl rfl rfl hw1) ?_)|(refine rd rfl (Aj 3 isAgg3 rfl rfl ((Aa SS).hold 0 rfl) rfl) ?_)|(refine rd rfl (Ex rfl rfl rfl hk0) ?_)))
            go_roundg (4 - 1)
            case measure=>omega
            case rel=>exact⟨1,by first|rfl|go_num,by omega,by omega,Ac (Sy.left (L:= [_,_]) (Aa SS))⟩
          ·as_aux_lemma=>
            go_wp2_with (first|go_skip|((with_reducible show wpList ..);first|(refine rd rfl (Aj 27 isAgg27 rfl rfl ((Aa SS).hold 0 rfl) rfl) ?_)|(refine rd rfl (Ge rfl rfl rfl hw1) ?_)|(refine rd rfl (Aj 3 isAgg3 rfl rfl ((Aa SS).hold 0 rfl) rfl) ?_)|(refine rd rfl (Jb rfl rfl rfl hk0) ?_)|(refine zL (d.v.cs) 26 5 0 rwV szV (by rfl) rfl rfl SS rfl rfl rfl ?_;simp only[nn])|(refine zS (d.v.cs) 5 26 (by rfl) rfl rfl rfl rfl (Eb _) szV SS rfl ?_;clear SS;intro X5 SS;simp only[nn])))
            go_roundg (4 - 1)
            case measure=>omega
            case rel=>exact⟨1,by first|rfl|go_num,by omega,by omega,Ac (Sy.left (L:= [_,_]) (Aa SS))⟩
         ·by_cases hk0:d.v.k=0
          ·as_aux_lemma=>
            go_wp2_with (first|go_skip|((with_reducible show wpList ..);first|(refine rd rfl (Aj 27 isAgg27 rfl rfl ((Aa SS).hold 0 rfl) rfl) ?_)|(refine rd rfl (Ge rfl rfl rfl hw1) ?_)|(refine rd rfl (Aj 3 isAgg3 rfl rfl ((Aa SS).hold 0 rfl) rfl) ?_)|(refine rd rfl (Ex rfl rfl rfl hk0) ?_)))
            go_roundg (4 - 1)
            case measure=>omega
            case rel=>exact⟨1,by first|rfl|go_num,by omega,by omega,Ac (Sy.left (L:= [_,_]) (Aa SS))⟩
          ·as_aux_lemma=>
            go_wp2_with (first|go_skip|((with_reducible show wpList ..);first|(refine rd rfl (Aj 27 isAgg27 rfl rfl ((Aa SS).hold 0 rfl) rfl) ?_)|(refine rd rfl (Ge rfl rfl rfl hw1) ?_)|(refine rd rfl (Aj 3 isAgg3 rfl rfl ((Aa SS).hold 0 rfl) rfl) ?_)|(refine rd rfl (Jb rfl rfl rfl hk0) ?_)|(refine zL (d.v.cs) 26 5 0 rwV szV (by rfl) rfl rfl SS rfl rfl rfl ?_;simp only[nn])|(refine zS (d.v.cs) 5 26 (by rfl) rfl rfl rfl rfl (Eb _) szV SS rfl ?_;clear SS;intro X5 SS;simp only[nn])))
            go_roundg (4 - 1)
            case measure=>omega
            case rel=>exact⟨1,by first|rfl|go_num,by omega,by omega,Ac (Sy.left (L:= [_,_]) (Aa SS))⟩
        ·have HA:=Xq d hFd
         rw[hra,Em] at HA
         refine(HA _).mono ?_
         clear HA
         rintro _ Y4 ⟨rfl,hb⟩
         replace SS:=Ac ((Aa SS).on hb)
         clear hb
         by_cases hk0:d.v.k=0
         ·as_aux_lemma=>
           go_wp2_with (first|go_skip|((with_reducible show wpList ..);first|(refine rd rfl (Aj 3 isAgg3 rfl rfl ((Aa SS).hold 0 rfl) rfl) ?_)|(refine rd rfl (Ex rfl rfl rfl hk0) ?_)))
           go_roundg (4 - 1)
           case measure=>omega
           case rel=>exact⟨1,by first|rfl|go_num,by omega,by omega,Ac (Sy.left (L:= [_,_]) (Aa SS))⟩
         ·as_aux_lemma=>
           go_wp2_with (first|go_skip|((with_reducible show wpList ..);first|(refine rd rfl (Aj 3 isAgg3 rfl rfl ((Aa SS).hold 0 rfl) rfl) ?_)|(refine rd rfl (Jb rfl rfl rfl hk0) ?_)|(refine zL (d.v.cs) 26 5 0 rwV szV (by rfl) rfl rfl SS rfl rfl rfl ?_;simp only[nn])|(refine zS (d.v.cs) 5 26 (by rfl) rfl rfl rfl rfl (Eb _) szV SS rfl ?_;clear SS;intro X5 SS;simp only[nn])))
           go_roundg (4 - 1)
           case measure=>omega
           case rel=>exact⟨1,by first|rfl|go_num,by omega,by omega,Ac (Sy.left (L:= [_,_]) (Aa SS))⟩
       ·obtain⟨rfl,rfl,hc,hDF⟩:=hE
        go_wp2_with (first|go_skip|((with_reducible show wpList ..);first|(refine zL (d.cs) 29 18 0 rwD szD (by rfl) rfl rfl SS rfl rfl rfl ?_;simp only[nn])))
        cases hra:Rq d
        ·have HA:=Xq d hFd
         rw[hra,Em] at HA
         refine(HA _).mono ?_
         clear HA
         rintro _ Y4 ⟨rfl,hb⟩
         replace SS:=Ac ((Aa SS).on hb)
         clear hb
         cases hw1:decide (d.w=1)
         ·by_cases hk0:d.v.k=0
          ·cases hrd:Rn d
           ·as_aux_lemma=>
             go_wp2_with (first|go_skip|((with_reducible show wpList ..);first|(refine rd rfl (Aj 27 isAgg27 rfl rfl ((Aa SS).hold 0 rfl) rfl) ?_)|(refine rd rfl (Ge rfl rfl rfl hw1) ?_)|(refine rd rfl (Aj 3 isAgg3 rfl rfl ((Aa SS).hold 0 rfl) rfl) ?_)|(refine rd rfl (Ex rfl rfl rfl hk0) ?_)|(refine zL (d.cs) 29 18 0 rwD szD (by rfl) rfl rfl SS rfl rfl rfl ?_;simp only[nn])))
             have HA:=Mq d hFd
             rw[hrd,Em] at HA
             refine(HA _).mono ?_
             clear HA
             rintro _ Y5 ⟨rfl,hb⟩
             replace SS:=Ac ((Aa SS).on hb)
             clear hb
             have hFin:=hDF.fin MM hpF hla (ti:=true) (x:=a.v) (by rw[←Jm hc,hra];simpa using hw1) (by rw[if_pos hk0])
             go_wp2_with fail
             obtain⟨q3,p3,a3,N1,N2,N3,N4,N5,N6,N7⟩:=hFin
             have HL:=Ju h1 0 q3 p3 a.n m a3
             rw[hb1,show ((0:Nat):Int)+1=1 from rfl] at HL
             refine(HL _ ((Aa SS).hp 2 rfl) N1.len N1.hj N1.ow N1.e hns N2 N3 (by rw[N4];exact has)).mono ?_
             clear HL
             rintro _ Y8 ⟨rfl,hb⟩
             replace SS:=Ac ((Aa SS).on hb)
             clear hb
             rw[N4,Dk]
             go_wp2_with (first|go_skip|((with_reducible show wpList ..);first|(refine zA 26 (Bz.cs) (by rfl) rfl SS ?_;clear SS;intro Xs Bs SS;simp only[nn])|(refine zS (a.v.cs) 6 26 (by rfl) rfl rfl rfl rfl (Eb _) szV SS rfl ?_;clear SS;intro X6 SS;simp only[nn])))
             replace SS:Hid (Sy w _ [] [Al Bd d.cs,Al Bv v.cs,hpO h1,Al Bn Ag.cs,Al Bk (idxK i).cs,Al Bu a.v.cs,Al Bs a.v.cs]):=SS
             have HL:=Lv h1 0 q3 p3 (i:Int) m a3
             rw[hb1,show ((0:Nat):Int)+1=1 from rfl,N5] at HL
             refine(HL _ ((Aa SS).hp 2 rfl) N1.len N1.hj N1.ow N1.e hwf (by rw[N6];rfl) N3 hns).mono ?_
             clear HL
             rintro _ Y9 ⟨rfl,hb⟩
             replace SS:=Ac ((Aa SS).on hb)
             clear hb
             go_wp2_with (first|go_skip|((with_reducible show wpList ..);first|(refine zL (a.v.cs) 26 5 6 rwV szV (by rfl) rfl rfl SS rfl rfl rfl ?_;simp only[nn])|(refine zL (a.v.cs) 26 5 5 rwV szV (by rfl) rfl rfl SS rfl rfl rfl ?_;simp only[nn])))
             have HQ:=Js a.v a.v
             rw[Gh,Dk] at HQ
             refine(HQ _).mono ?_
             clear HQ
             rintro _ Y10 ⟨rfl,hb⟩
             replace SS:=Ac ((Aa SS).on hb)
             clear hb
             go_wp2_with fail
             go_roundg (4 - 1)
             case measure=>omega
             case rel=>exact⟨1,by first|rfl|go_num,by omega,by omega,Ac (Sy.left (L:= [_,_]) (Aa SS))⟩
           ·as_aux_lemma=>
             go_wp2_with (first|go_skip|((with_reducible show wpList ..);first|(refine rd rfl (Aj 27 isAgg27 rfl rfl ((Aa SS).hold 0 rfl) rfl) ?_)|(refine rd rfl (Ge rfl rfl rfl hw1) ?_)|(refine rd rfl (Aj 3 isAgg3 rfl rfl ((Aa SS).hold 0 rfl) rfl) ?_)|(refine rd rfl (Ex rfl rfl rfl hk0) ?_)|(refine zL (d.cs) 29 18 0 rwD szD (by rfl) rfl rfl SS rfl rfl rfl ?_;simp only[nn])))
             have HA:=Mq d hFd
             rw[hrd,Em] at HA
             refine(HA _).mono ?_
             clear HA
             rintro _ Y5 ⟨rfl,hb⟩
             replace SS:=Ac ((Aa SS).on hb)
             clear hb
             have hFin:=hDF.fin MM hpF hla (ti:=true) (x:=a.v) (by rw[←Jm hc,hra];simpa using hw1) (by rw[if_pos hk0])
             go_wp2_with (first|go_skip|((with_reducible show wpList ..);first|(refine rd rfl (Aj 3 isAgg3 rfl rfl ((Aa SS).hold 0 rfl) rfl) ?_)|(refine rd rfl (Ex rfl rfl rfl hk0) ?_)))
             obtain⟨q3,p3,a3,N1,N2,N3,N4,N5,N6,N7⟩:=hFin
             have HL:=Ju h1 0 q3 p3 a.n m a3
             rw[hb1,show ((0:Nat):Int)+1=1 from rfl] at HL
             refine(HL _ ((Aa SS).hp 2 rfl) N1.len N1.hj N1.ow N1.e hns N2 N3 (by rw[N4];exact has)).mono ?_
             clear HL
             rintro _ Y8 ⟨rfl,hb⟩
             replace SS:=Ac ((Aa SS).on hb)
             clear hb
             rw[N4,Dk]
             go_wp2_with (first|go_skip|((with_reducible show wpList ..);first|(refine zA 26 (Bz.cs) (by rfl) rfl SS ?_;clear SS;intro Xs Bs SS;simp only[nn])|(refine zS (a.v.cs) 6 26 (by rfl) rfl rfl rfl rfl (Eb _) szV SS rfl ?_;clear SS;intro X6 SS;simp only[nn])))
             replace SS:Hid (Sy w _ [] [Al Bd d.cs,Al Bv v.cs,hpO h1,Al Bn Ag.cs,Al Bk (idxK i).cs,Al Bu a.v.cs,Al Bs a.v.cs]):=SS
             have HL:=Lv h1 0 q3 p3 (i:Int) m a3
             rw[hb1,show ((0:Nat):Int)+1=1 from rfl,N5] at HL
             refine(HL _ ((Aa SS).hp 2 rfl) N1.len N1.hj N1.ow N1.e hwf (by rw[N6];rfl) N3 hns).mono ?_
             clear HL
             rintro _ Y9 ⟨rfl,hb⟩
             replace SS:=Ac ((Aa SS).on hb)
             clear hb
             go_wp2_with (first|go_skip|((with_reducible show wpList ..);first|(refine zL (a.v.cs) 26 5 6 rwV szV (by rfl) rfl rfl SS rfl rfl rfl ?_;simp only[nn])|(refine zL (a.v.cs) 26 5 5 rwV szV (by rfl) rfl rfl SS rfl rfl rfl ?_;simp only[nn])))
             have HQ:=Js a.v a.v
             rw[Gh,Dk] at HQ
             refine(HQ _).mono ?_
             clear HQ
             rintro _ Y10 ⟨rfl,hb⟩
             replace SS:=Ac ((Aa SS).on hb)
             clear hb
             go_wp2_with fail
             go_roundg (4 - 1)
             case measure=>omega
             case rel=>exact⟨1,by first|rfl|go_num,by omega,by omega,Ac (Sy.left (L:= [_,_]) (Aa SS))⟩
          ·as_aux_lemma=>
            have hrd:=Zj hc hk0
            go_wp2_with (first|go_skip|((with_reducible show wpList ..);first|(refine rd rfl (Aj 27 isAgg27 rfl rfl ((Aa SS).hold 0 rfl) rfl) ?_)|(refine rd rfl (Ge rfl rfl rfl hw1) ?_)|(refine rd rfl (Aj 3 isAgg3 rfl rfl ((Aa SS).hold 0 rfl) rfl) ?_)|(refine rd rfl (Jb rfl rfl rfl hk0) ?_)|(refine zL (d.v.cs) 26 5 0 rwV szV (by rfl) rfl rfl SS rfl rfl rfl ?_;simp only[nn])|(refine zS (d.v.cs) 5 26 (by rfl) rfl rfl rfl rfl (Eb _) szV SS rfl ?_;clear SS;intro X5 SS;simp only[nn])|(refine zL (d.cs) 29 18 0 rwD szD (by rfl) rfl rfl SS rfl rfl rfl ?_;simp only[nn])))
            replace SS:Hid (Sy w _ [] [Al Bd d.cs,Al Bv v.cs,hpO h1,Al Bn Ag.cs,Al Bk (idxK i).cs,Al Bu d.v.cs]):=SS
            have HA:=Mq d hFd
            rw[hrd,Em] at HA
            refine(HA _).mono ?_
            clear HA
            rintro _ Y5 ⟨rfl,hb⟩
            replace SS:=Ac ((Aa SS).on hb)
            clear hb
            have hFin:=hDF.fin MM hpF hla (ti:=true) (x:=d.v) (by rw[←Jm hc,hra];simpa using hw1) (by rw[if_neg hk0])
            go_wp2_with (first|go_skip|((with_reducible show wpList ..);first|(refine rd rfl (Aj 3 isAgg3 rfl rfl ((Aa SS).hold 0 rfl) rfl) ?_)|(refine rd rfl (Jb rfl rfl rfl hk0) ?_)|(refine zL ((idxK i).cs) 42 2 4 rwK szK (by rfl) rfl rfl SS rfl rfl rfl ?_;simp only[nn])|(refine zL (Ag.cs) 26 5 3 rwV szV (by rfl) rfl rfl SS rfl rfl rfl ?_;simp only[nn])))
            have HG:=ZbK h h1 q p i m a a.v d
            rw[hb1] at HG
            simp only[Ec,Dk] at HG
            refine(HG _ ((Aa SS).hp 2 rfl) (Eu (Aa HT) (Aa SS).fr) F.k MM hDF hc hk0 hpF hla (by rw[F.f];decide) (by rw[F.ent,F.dep];decide)).mono ?_
            clear HG
            rintro _ Y6 ⟨rfl,TG⟩
            replace SS:=Ac ((Aa SS).heap 2 rfl TG)
            clear TG
            replace hFin:=hFin.less
            have hb2:h1.less.b=B0:=hb1
            obtain⟨h2,hh2⟩: ∃h2,h2=h1.less:=⟨_,rfl⟩
            rw[←hh2] at hFin hb2 SS
            clear hDF hb1 hh2
            have hb1:=hb2
            clear hb2
            go_wp2_with (first|go_skip|((with_reducible show wpList ..);first|(refine zA 26 (Bz.cs) (by rfl) rfl SS ?_;clear SS;intro Xg Bg SS;simp only[nn])|(refine zS (d.v.cs) 6 26 (by rfl) rfl rfl rfl rfl (Eb _) szV SS rfl ?_;clear SS;intro X7 SS;simp only[nn])|(refine zL (d.v.cs) 26 5 6 rwV szV (by rfl) rfl rfl SS rfl rfl rfl ?_;simp only[nn])|(refine zL (d.v.cs) 26 5 0 rwV szV (by rfl) rfl rfl SS rfl rfl rfl ?_;simp only[nn])))
            replace SS:Hid (Sy w _ [] [Al Bd d.cs,Al Bv v.cs,hpO h2,Al Bn Ag.cs,Al Bk (idxK i).cs,Al Bu d.v.cs,Al Bg d.v.cs]):=SS
            have HQ:=Js d.v d.v
            rw[Gh,Dk] at HQ
            refine(HQ _).mono ?_
            clear HQ
            rintro _ Y7 ⟨rfl,hb⟩
            replace SS:=Ac ((Aa SS).on hb)
            clear hb
            obtain⟨q3,p3,a3,N1,N2,N3,N4,N5,N6,N7⟩:=hFin
            go_wp2_with fail
            have HL:=Ju h2 0 q3 p3 a.n m a3
            rw[hb1,show ((0:Nat):Int)+1=1 from rfl] at HL
            refine(HL _ ((Aa SS).hp 2 rfl) N1.len N1.hj N1.ow N1.e hns N2 N3 (by rw[N4];exact chk_dv hc hk0)).mono ?_
            clear HL
            rintro _ Y8 ⟨rfl,hb⟩
            replace SS:=Ac ((Aa SS).on hb)
            clear hb
            rw[N4,Dk]
            go_wp2_with (first|go_skip|((with_reducible show wpList ..);first|(refine zA 26 (Bz.cs) (by rfl) rfl SS ?_;clear SS;intro Xs Bs SS;simp only[nn])|(refine zS (d.v.cs) 7 26 (by rfl) rfl rfl rfl rfl (Eb _) szV SS rfl ?_;clear SS;intro X6 SS;simp only[nn])))
            replace SS:Hid (Sy w _ [] [Al Bd d.cs,Al Bv v.cs,hpO h2,Al Bn Ag.cs,Al Bk (idxK i).cs,Al Bu d.v.cs,Al Bg d.v.cs,Al Bs d.v.cs]):=SS
            have HL:=Lv h2 0 q3 p3 (i:Int) m a3
            rw[hb1,show ((0:Nat):Int)+1=1 from rfl,N5] at HL
            refine(HL _ ((Aa SS).hp 2 rfl) N1.len N1.hj N1.ow N1.e hwf (by rw[N6];rfl) N3 hns).mono ?_
            clear HL
            rintro _ Y9 ⟨rfl,hb⟩
            replace SS:=Ac ((Aa SS).on hb)
            clear hb
            go_wp2_with (first|go_skip|((with_reducible show wpList ..);first|(refine zL (d.v.cs) 26 5 7 rwV szV (by rfl) rfl rfl SS rfl rfl rfl ?_;simp only[nn])|(refine zL (d.v.cs) 26 5 5 rwV szV (by rfl) rfl rfl SS rfl rfl rfl ?_;simp only[nn])))
            have HQ:=Js d.v d.v
            rw[Gh,Dk] at HQ
            refine(HQ _).mono ?_
            clear HQ
            rintro _ Y10 ⟨rfl,hb⟩
            replace SS:=Ac ((Aa SS).on hb)
            clear hb
            go_wp2_with fail
            go_roundg (4 - 1)
            case measure=>omega
            case rel=>exact⟨1,by first|rfl|go_num,by omega,by omega,Ac (Sy.left (L:= [_,_]) (Aa SS))⟩
         ·by_cases hk0:d.v.k=0
          ·cases hrd:Rn d
           ·as_aux_lemma=>
             go_wp2_with (first|go_skip|((with_reducible show wpList ..);first|(refine rd rfl (Aj 27 isAgg27 rfl rfl ((Aa SS).hold 0 rfl) rfl) ?_)|(refine rd rfl (Ge rfl rfl rfl hw1) ?_)|(refine rd rfl (Aj 3 isAgg3 rfl rfl ((Aa SS).hold 0 rfl) rfl) ?_)|(refine rd rfl (Ex rfl rfl rfl hk0) ?_)|(refine zL (d.cs) 29 18 0 rwD szD (by rfl) rfl rfl SS rfl rfl rfl ?_;simp only[nn])))
             have HA:=Mq d hFd
             rw[hrd,Em] at HA
             refine(HA _).mono ?_
             clear HA
             rintro _ Y5 ⟨rfl,hb⟩
             replace SS:=Ac ((Aa SS).on hb)
             clear hb
             have hFin:=hDF.fin MM hpF hla (ti:=false) (x:=a.v) (by rw[←Jm hc,hra];simpa using hw1) (by rw[if_pos hk0])
             go_wp2_with fail
             obtain⟨q3,p3,a3,N1,N2,N3,N4,N5,N6,N7⟩:=hFin
             have HL:=Ju h1 0 q3 p3 a.n m a3
             rw[hb1,show ((0:Nat):Int)+1=1 from rfl] at HL
             refine(HL _ ((Aa SS).hp 2 rfl) N1.len N1.hj N1.ow N1.e hns N2 N3 (by rw[N4];exact has)).mono ?_
             clear HL
             rintro _ Y8 ⟨rfl,hb⟩
             replace SS:=Ac ((Aa SS).on hb)
             clear hb
             rw[N4,Dk]
             go_wp2_with (first|go_skip|((with_reducible show wpList ..);first|(refine zA 26 (Bz.cs) (by rfl) rfl SS ?_;clear SS;intro Xs Bs SS;simp only[nn])|(refine zS (a.v.cs) 6 26 (by rfl) rfl rfl rfl rfl (Eb _) szV SS rfl ?_;clear SS;intro X6 SS;simp only[nn])))
             replace SS:Hid (Sy w _ [] [Al Bd d.cs,Al Bv v.cs,hpO h1,Al Bn Ag.cs,Al Bk (idxK i).cs,Al Bu a.v.cs,Al Bs a.v.cs]):=SS
             have HL:=Kd h1 0 q3 p3 (i:Int)
             rw[hb1,show ((0:Nat):Int)+1=1 from rfl] at HL
             refine(HL _ ((Aa SS).hp 2 rfl) N1.len N1.hj N1.ow N1.e hwf (by rw[N6];rfl)).mono ?_
             clear HL
             rintro _ Y9 ⟨rfl,hb⟩
             replace SS:=Ac ((Aa SS).on hb)
             clear hb
             go_wp2_with (first|go_skip|((with_reducible show wpList ..);first|(refine zL (a.v.cs) 26 5 6 rwV szV (by rfl) rfl rfl SS rfl rfl rfl ?_;simp only[nn])|(refine zL (a.v.cs) 26 5 5 rwV szV (by rfl) rfl rfl SS rfl rfl rfl ?_;simp only[nn])))
             have HQ:=Js a.v a.v
             rw[Gh,Dk] at HQ
             refine(HQ _).mono ?_
             clear HQ
             rintro _ Y10 ⟨rfl,hb⟩
             replace SS:=Ac ((Aa SS).on hb)
             clear hb
             go_wp2_with fail
             go_roundg (4 - 1)
             case measure=>omega
             case rel=>exact⟨1,by first|rfl|go_num,by omega,by omega,Ac (Sy.left (L:= [_,_]) (Aa SS))⟩
           ·as_aux_lemma=>
             go_wp2_with (first|go_skip|((with_reducible show wpList ..);first|(refine rd rfl (Aj 27 isAgg27 rfl rfl ((Aa SS).hold 0 rfl) rfl) ?_)|(refine rd rfl (Ge rfl rfl rfl hw1) ?_)|(refine rd rfl (Aj 3 isAgg3 rfl rfl ((Aa SS).hold 0 rfl) rfl) ?_)|(refine rd rfl (Ex rfl rfl rfl hk0) ?_)|(refine zL (d.cs) 29 18 0 rwD szD (by rfl) rfl rfl SS rfl rfl rfl ?_;simp only[nn])))
             have HA:=Mq d hFd
             rw[hrd,Em] at HA
             refine(HA _).mono ?_
             clear HA
             rintro _ Y5 ⟨rfl,hb⟩
             replace SS:=Ac ((Aa SS).on hb)
             clear hb
             have hFin:=hDF.fin MM hpF hla (ti:=false) (x:=a.v) (by rw[←Jm hc,hra];simpa using hw1) (by rw[if_pos hk0])
             go_wp2_with (first|go_skip|((with_reducible show wpList ..);first|(refine rd rfl (Aj 3 isAgg3 rfl rfl ((Aa SS).hold 0 rfl) rfl) ?_)|(refine rd rfl (Ex rfl rfl rfl hk0) ?_)))
             obtain⟨q3,p3,a3,N1,N2,N3,N4,N5,N6,N7⟩:=hFin
             have HL:=Ju h1 0 q3 p3 a.n m a3
             rw[hb1,show ((0:Nat):Int)+1=1 from rfl] at HL
             refine(HL _ ((Aa SS).hp 2 rfl) N1.len N1.hj N1.ow N1.e hns N2 N3 (by rw[N4];exact has)).mono ?_
             clear HL
             rintro _ Y8 ⟨rfl,hb⟩
             replace SS:=Ac ((Aa SS).on hb)
             clear hb
             rw[N4,Dk]
             go_wp2_with (first|go_skip|((with_reducible show wpList ..);first|(refine zA 26 (Bz.cs) (by rfl) rfl SS ?_;clear SS;intro Xs Bs SS;simp only[nn])|(refine zS (a.v.cs) 6 26 (by rfl) rfl rfl rfl rfl (Eb _) szV SS rfl ?_;clear SS;intro X6 SS;simp only[nn])))
             replace SS:Hid (Sy w _ [] [Al Bd d.cs,Al Bv v.cs,hpO h1,Al Bn Ag.cs,Al Bk (idxK i).cs,Al Bu a.v.cs,Al Bs a.v.cs]):=SS
             have HL:=Kd h1 0 q3 p3 (i:Int)
             rw[hb1,show ((0:Nat):Int)+1=1 from rfl] at HL
             refine(HL _ ((Aa SS).hp 2 rfl) N1.len N1.hj N1.ow N1.e hwf (by rw[N6];rfl)).mono ?_
             clear HL
             rintro _ Y9 ⟨rfl,hb⟩
             replace SS:=Ac ((Aa SS).on hb)
             clear hb
             go_wp2_with (first|go_skip|((with_reducible show wpList ..);first|(refine zL (a.v.cs) 26 5 6 rwV szV (by rfl) rfl rfl SS rfl rfl rfl ?_;simp only[nn])|(refine zL (a.v.cs) 26 5 5 rwV szV (by rfl) rfl rfl SS rfl rfl rfl ?_;simp only[nn])))
             have HQ:=Js a.v a.v
             rw[Gh,Dk] at HQ
             refine(HQ _).mono ?_
             clear HQ
             rintro _ Y10 ⟨rfl,hb⟩
             replace SS:=Ac ((Aa SS).on hb)
             clear hb
             go_wp2_with fail
             go_roundg (4 - 1)
             case measure=>omega
             case rel=>exact⟨1,by first|rfl|go_num,by omega,by omega,Ac (Sy.left (L:= [_,_]) (Aa SS))⟩
          ·as_aux_lemma=>
            have hrd:=Zj hc hk0
            go_wp2_with (first|go_skip|((with_reducible show wpList ..);first|(refine rd rfl (Aj 27 isAgg27 rfl rfl ((Aa SS).hold 0 rfl) rfl) ?_)|(refine rd rfl (Ge rfl rfl rfl hw1) ?_)|(refine rd rfl (Aj 3 isAgg3 rfl rfl ((Aa SS).hold 0 rfl) rfl) ?_)|(refine rd rfl (Jb rfl rfl rfl hk0) ?_)|(refine zL (d.v.cs) 26 5 0 rwV szV (by rfl) rfl rfl SS rfl rfl rfl ?_;simp only[nn])|(refine zS (d.v.cs) 5 26 (by rfl) rfl rfl rfl rfl (Eb _) szV SS rfl ?_;clear SS;intro X5 SS;simp only[nn])|(refine zL (d.cs) 29 18 0 rwD szD (by rfl) rfl rfl SS rfl rfl rfl ?_;simp only[nn])))
            replace SS:Hid (Sy w _ [] [Al Bd d.cs,Al Bv v.cs,hpO h1,Al Bn Ag.cs,Al Bk (idxK i).cs,Al Bu d.v.cs]):=SS
            have HA:=Mq d hFd
            rw[hrd,Em] at HA
            refine(HA _).mono ?_
            clear HA
            rintro _ Y5 ⟨rfl,hb⟩
            replace SS:=Ac ((Aa SS).on hb)
            clear hb
            have hFin:=hDF.fin MM hpF hla (ti:=false) (x:=d.v) (by rw[←Jm hc,hra];simpa using hw1) (by rw[if_neg hk0])
            go_wp2_with (first|go_skip|((with_reducible show wpList ..);first|(refine rd rfl (Aj 3 isAgg3 rfl rfl ((Aa SS).hold 0 rfl) rfl) ?_)|(refine rd rfl (Jb rfl rfl rfl hk0) ?_)|(refine zL ((idxK i).cs) 42 2 4 rwK szK (by rfl) rfl rfl SS rfl rfl rfl ?_;simp only[nn])|(refine zL (Ag.cs) 26 5 3 rwV szV (by rfl) rfl rfl SS rfl rfl rfl ?_;simp only[nn])))
            have HG:=ZbK h h1 q p i m a a.v d
            rw[hb1] at HG
            simp only[Ec,Dk] at HG
            refine(HG _ ((Aa SS).hp 2 rfl) (Eu (Aa HT) (Aa SS).fr) F.k MM hDF hc hk0 hpF hla (by rw[F.f];decide) (by rw[F.ent,F.dep];decide)).mono ?_
            clear HG
            rintro _ Y6 ⟨rfl,TG⟩
            replace SS:=Ac ((Aa SS).heap 2 rfl TG)
            clear TG
            replace hFin:=hFin.less
            have hb2:h1.less.b=B0:=hb1
            obtain⟨h2,hh2⟩: ∃h2,h2=h1.less:=⟨_,rfl⟩
            rw[←hh2] at hFin hb2 SS
            clear hDF hb1 hh2
            have hb1:=hb2
            clear hb2
            go_wp2_with (first|go_skip|((with_reducible show wpList ..);first|(refine zA 26 (Bz.cs) (by rfl) rfl SS ?_;clear SS;intro Xg Bg SS;simp only[nn])|(refine zS (d.v.cs) 6 26 (by rfl) rfl rfl rfl rfl (Eb _) szV SS rfl ?_;clear SS;intro X7 SS;simp only[nn])|(refine zL (d.v.cs) 26 5 6 rwV szV (by rfl) rfl rfl SS rfl rfl rfl ?_;simp only[nn])|(refine zL (d.v.cs) 26 5 0 rwV szV (by rfl) rfl rfl SS rfl rfl rfl ?_;simp only[nn])))
            replace SS:Hid (Sy w _ [] [Al Bd d.cs,Al Bv v.cs,hpO h2,Al Bn Ag.cs,Al Bk (idxK i).cs,Al Bu d.v.cs,Al Bg d.v.cs]):=SS
            have HQ:=Js d.v d.v
            rw[Gh,Dk] at HQ
            refine(HQ _).mono ?_
            clear HQ
            rintro _ Y7 ⟨rfl,hb⟩
            replace SS:=Ac ((Aa SS).on hb)
            clear hb
            obtain⟨q3,p3,a3,N1,N2,N3,N4,N5,N6,N7⟩:=hFin
            go_wp2_with fail
            have HL:=Ju h2 0 q3 p3 a.n m a3
            rw[hb1,show ((0:Nat):Int)+1=1 from rfl] at HL
            refine(HL _ ((Aa SS).hp 2 rfl) N1.len N1.hj N1.ow N1.e hns N2 N3 (by rw[N4];exact chk_dv hc hk0)).mono ?_
            clear HL
            rintro _ Y8 ⟨rfl,hb⟩
            replace SS:=Ac ((Aa SS).on hb)
            clear hb
            rw[N4,Dk]
            go_wp2_with (first|go_skip|((with_reducible show wpList ..);first|(refine zA 26 (Bz.cs) (by rfl) rfl SS ?_;clear SS;intro Xs Bs SS;simp only[nn])|(refine zS (d.v.cs) 7 26 (by rfl) rfl rfl rfl rfl (Eb _) szV SS rfl ?_;clear SS;intro X6 SS;simp only[nn])))
            replace SS:Hid (Sy w _ [] [Al Bd d.cs,Al Bv v.cs,hpO h2,Al Bn Ag.cs,Al Bk (idxK i).cs,Al Bu d.v.cs,Al Bg d.v.cs,Al Bs d.v.cs]):=SS
            have HL:=Kd h2 0 q3 p3 (i:Int)
            rw[hb1,show ((0:Nat):Int)+1=1 from rfl] at HL
            refine(HL _ ((Aa SS).hp 2 rfl) N1.len N1.hj N1.ow N1.e hwf (by rw[N6];rfl)).mono ?_
            clear HL
            rintro _ Y9 ⟨rfl,hb⟩
            replace SS:=Ac ((Aa SS).on hb)
            clear hb
            go_wp2_with (first|go_skip|((with_reducible show wpList ..);first|(refine zL (d.v.cs) 26 5 7 rwV szV (by rfl) rfl rfl SS rfl rfl rfl ?_;simp only[nn])|(refine zL (d.v.cs) 26 5 5 rwV szV (by rfl) rfl rfl SS rfl rfl rfl ?_;simp only[nn])))
            have HQ:=Js d.v d.v
            rw[Gh,Dk] at HQ
            refine(HQ _).mono ?_
            clear HQ
            rintro _ Y10 ⟨rfl,hb⟩
            replace SS:=Ac ((Aa SS).on hb)
            clear hb
            go_wp2_with fail
            go_roundg (4 - 1)
            case measure=>omega
            case rel=>exact⟨1,by first|rfl|go_num,by omega,by omega,Ac (Sy.left (L:= [_,_]) (Aa SS))⟩
        ·have HA:=Xq d hFd
         rw[hra,Em] at HA
         refine(HA _).mono ?_
         clear HA
         rintro _ Y4 ⟨rfl,hb⟩
         replace SS:=Ac ((Aa SS).on hb)
         clear hb
         have hk0:=ZcC hc hra
         cases hrd:Rn d
         ·as_aux_lemma=>
           go_wp2_with (first|go_skip|((with_reducible show wpList ..);first|(refine rd rfl (Aj 3 isAgg3 rfl rfl ((Aa SS).hold 0 rfl) rfl) ?_)|(refine rd rfl (Ex rfl rfl rfl hk0) ?_)|(refine zL (d.cs) 29 18 0 rwD szD (by rfl) rfl rfl SS rfl rfl rfl ?_;simp only[nn])))
           have HA:=Mq d hFd
           rw[hrd,Em] at HA
           refine(HA _).mono ?_
           clear HA
           rintro _ Y5 ⟨rfl,hb⟩
           replace SS:=Ac ((Aa SS).on hb)
           clear hb
           have hFin:=hDF.fin MM hpF hla (ti:=false) (x:=a.v) (by rw[←Jm hc,hra];simp) (by rw[if_pos hk0])
           go_wp2_with fail
           obtain⟨q3,p3,a3,N1,N2,N3,N4,N5,N6,N7⟩:=hFin
           have HL:=Ju h1 0 q3 p3 a.n m a3
           rw[hb1,show ((0:Nat):Int)+1=1 from rfl] at HL
           refine(HL _ ((Aa SS).hp 2 rfl) N1.len N1.hj N1.ow N1.e hns N2 N3 (by rw[N4];exact has)).mono ?_
           clear HL
           rintro _ Y8 ⟨rfl,hb⟩
           replace SS:=Ac ((Aa SS).on hb)
           clear hb
           rw[N4,Dk]
           go_wp2_with (first|go_skip|((with_reducible show wpList ..);first|(refine zA 26 (Bz.cs) (by rfl) rfl SS ?_;clear SS;intro Xs Bs SS;simp only[nn])|(refine zS (a.v.cs) 6 26 (by rfl) rfl rfl rfl rfl (Eb _) szV SS rfl ?_;clear SS;intro X6 SS;simp only[nn])))
           replace SS:Hid (Sy w _ [] [Al Bd d.cs,Al Bv v.cs,hpO h1,Al Bn Ag.cs,Al Bk (idxK i).cs,Al Bu a.v.cs,Al Bs a.v.cs]):=SS
           have HL:=Kd h1 0 q3 p3 (i:Int)
           rw[hb1,show ((0:Nat):Int)+1=1 from rfl] at HL
           refine(HL _ ((Aa SS).hp 2 rfl) N1.len N1.hj N1.ow N1.e hwf (by rw[N6];rfl)).mono ?_
           clear HL
           rintro _ Y9 ⟨rfl,hb⟩
           replace SS:=Ac ((Aa SS).on hb)
           clear hb
           go_wp2_with (first|go_skip|((with_reducible show wpList ..);first|(refine zL (a.v.cs) 26 5 6 rwV szV (by rfl) rfl rfl SS rfl rfl rfl ?_;simp only[nn])|(refine zL (a.v.cs) 26 5 5 rwV szV (by rfl) rfl rfl SS rfl rfl rfl ?_;simp only[nn])))
           have HQ:=Js a.v a.v
           rw[Gh,Dk] at HQ
           refine(HQ _).mono ?_
           clear HQ
           rintro _ Y10 ⟨rfl,hb⟩
           replace SS:=Ac ((Aa SS).on hb)
           clear hb
           go_wp2_with fail
           go_roundg (4 - 1)
           case measure=>omega
           case rel=>exact⟨1,by first|rfl|go_num,by omega,by omega,Ac (Sy.left (L:= [_,_]) (Aa SS))⟩
         ·as_aux_lemma=>
           go_wp2_with (first|go_skip|((with_reducible show wpList ..);first|(refine rd rfl (Aj 3 isAgg3 rfl rfl ((Aa SS).hold 0 rfl) rfl) ?_)|(refine rd rfl (Ex rfl rfl rfl hk0) ?_)|(refine zL (d.cs) 29 18 0 rwD szD (by rfl) rfl rfl SS rfl rfl rfl ?_;simp only[nn])))
           have HA:=Mq d hFd
           rw[hrd,Em] at HA
           refine(HA _).mono ?_
           clear HA
           rintro _ Y5 ⟨rfl,hb⟩
           replace SS:=Ac ((Aa SS).on hb)
           clear hb
           have hFin:=hDF.fin MM hpF hla (ti:=false) (x:=a.v) (by rw[←Jm hc,hra];simp) (by rw[if_pos hk0])
           go_wp2_with (first|go_skip|((with_reducible show wpList ..);first|(refine rd rfl (Aj 3 isAgg3 rfl rfl ((Aa SS).hold 0 rfl) rfl) ?_)|(refine rd rfl (Ex rfl rfl rfl hk0) ?_)))
           obtain⟨q3,p3,a3,N1,N2,N3,N4,N5,N6,N7⟩:=hFin
           have HL:=Ju h1 0 q3 p3 a.n m a3
           rw[hb1,show ((0:Nat):Int)+1=1 from rfl] at HL
           refine(HL _ ((Aa SS).hp 2 rfl) N1.len N1.hj N1.ow N1.e hns N2 N3 (by rw[N4];exact has)).mono ?_
           clear HL
           rintro _ Y8 ⟨rfl,hb⟩
           replace SS:=Ac ((Aa SS).on hb)
           clear hb
           rw[N4,Dk]
           go_wp2_with (first|go_skip|((with_reducible show wpList ..);first|(refine zA 26 (Bz.cs) (by rfl) rfl SS ?_;clear SS;intro Xs Bs SS;simp only[nn])|(refine zS (a.v.cs) 6 26 (by rfl) rfl rfl rfl rfl (Eb _) szV SS rfl ?_;clear SS;intro X6 SS;simp only[nn])))
           replace SS:Hid (Sy w _ [] [Al Bd d.cs,Al Bv v.cs,hpO h1,Al Bn Ag.cs,Al Bk (idxK i).cs,Al Bu a.v.cs,Al Bs a.v.cs]):=SS
           have HL:=Kd h1 0 q3 p3 (i:Int)
           rw[hb1,show ((0:Nat):Int)+1=1 from rfl] at HL
           refine(HL _ ((Aa SS).hp 2 rfl) N1.len N1.hj N1.ow N1.e hwf (by rw[N6];rfl)).mono ?_
           clear HL
           rintro _ Y9 ⟨rfl,hb⟩
           replace SS:=Ac ((Aa SS).on hb)
           clear hb
           go_wp2_with (first|go_skip|((with_reducible show wpList ..);first|(refine zL (a.v.cs) 26 5 6 rwV szV (by rfl) rfl rfl SS rfl rfl rfl ?_;simp only[nn])|(refine zL (a.v.cs) 26 5 5 rwV szV (by rfl) rfl rfl SS rfl rfl rfl ?_;simp only[nn])))
           have HQ:=Js a.v a.v
           rw[Gh,Dk] at HQ
           refine(HQ _).mono ?_
           clear HQ
           rintro _ Y10 ⟨rfl,hb⟩
           replace SS:=Ac ((Aa SS).on hb)
           clear hb
           go_wp2_with fail
           go_roundg (4 - 1)
           case measure=>omega
           case rel=>exact⟨1,by first|rfl|go_num,by omega,by omega,Ac (Sy.left (L:= [_,_]) (Aa SS))⟩
     ·rw[show ((1:Nat):Int)=1 from rfl]
      clear hlt dlt
      as_aux_lemma=>
       go_wp2_with (first|go_skip|((with_reducible show wpList ..);first|(refine zA 26 (Bz.cs) (by rfl) rfl SS ?_;clear SS;intro Xu Bu SS;simp only[nn])|(refine zS (a.v.cs) 5 26 (by rfl) rfl rfl rfl rfl (Eb _) szV SS rfl ?_;clear SS;intro X4 SS;simp only[nn])|(refine zL ((idxK i).cs) 42 2 4 rwK szK (by rfl) rfl rfl SS rfl rfl rfl ?_;simp only[nn])|(refine zL (v.cs) 26 5 1 rwV szV (by rfl) rfl rfl SS rfl rfl rfl ?_;simp only[nn])|(refine rd rfl (Rh (i:=1) rfl rfl) ?_)))
       have HD:=dset h q p i m a a.v v
       rw[F.b] at HD
       simp only[Ec,Dk] at HD
       refine(HD _ ((Aa SS).hp 2 rfl) (Eu (Aa HT) (Aa SS).fr) F.k MM (by rw[F.f];decide) (by rw[F.ent,F.dep];decide) (by rw[F.ent,F.dep];decide) hvx hla hpF).mono ?_
       clear HD
       rintro _ Y3 ⟨h1,y,er,rfl,hE,TD⟩
       have hb1:h1.b=B0:=TD.hb.trans F.b
       replace SS:=Ac ((Aa SS).heap 2 rfl TD)
       clear TD
       replace SS:Hid (Sy w _ [] [Al Bd d.cs,Al Bv v.cs,hpO h1,Al Bn Ag.cs,Al Bk (idxK i).cs,Al Bu a.v.cs]):=SS
       rcases hE with hE|hE
       ·obtain⟨c9,rfl, -, -,rfl⟩:=hE
        unfold La
        go_wp2_with (first|go_skip|((with_reducible show wpList ..);first|(refine zL (v.cs) 26 5 1 rwV szV (by rfl) rfl rfl SS rfl rfl rfl ?_;simp only[nn])|(refine zS (v.cs) 5 26 (by rfl) rfl rfl rfl rfl (Eb _) szV SS rfl ?_;clear SS;intro X5 SS;simp only[nn])))
        go_roundg (4 - 2)
        case measure=>omega
        case rel=>exact⟨2,by first|rfl|go_num,by omega,by omega,Ac (Sy.left (L:= [_,_]) (Aa SS))⟩
       ·obtain⟨rfl,rfl,hvg,hFin⟩:=hE
        have hvs:=ZaJ hvg
        go_wp2_with (first|go_skip|((with_reducible show wpList ..);first|(refine zL (v.cs) 26 5 1 rwV szV (by rfl) rfl rfl SS rfl rfl rfl ?_;simp only[nn])|(refine zS (v.cs) 5 26 (by rfl) rfl rfl rfl rfl (Eb _) szV SS rfl ?_;clear SS;intro X5 SS;simp only[nn])))
        replace SS:Hid (Sy w _ [] [Al Bd d.cs,Al Bv v.cs,hpO h1,Al Bn Ag.cs,Al Bk (idxK i).cs,Al Bu v.cs]):=SS
        obtain⟨q3,p3,a3,N1,N2,N3,N4,N5,N6,N7⟩:=hFin
        have HL:=Ju h1 0 q3 p3 a.n m a3
        rw[hb1,show ((0:Nat):Int)+1=1 from rfl] at HL
        refine(HL _ ((Aa SS).hp 2 rfl) N1.len N1.hj N1.ow N1.e hns N2 N3 (by rw[N4];exact hvs)).mono ?_
        clear HL
        rintro _ Y8 ⟨rfl,hb⟩
        replace SS:=Ac ((Aa SS).on hb)
        clear hb
        rw[N4,Dk]
        go_wp2_with (first|go_skip|((with_reducible show wpList ..);first|(refine zA 26 (Bz.cs) (by rfl) rfl SS ?_;clear SS;intro Xs Bs SS;simp only[nn])|(refine zS (v.cs) 6 26 (by rfl) rfl rfl rfl rfl (Eb _) szV SS rfl ?_;clear SS;intro X6 SS;simp only[nn])))
        replace SS:Hid (Sy w _ [] [Al Bd d.cs,Al Bv v.cs,hpO h1,Al Bn Ag.cs,Al Bk (idxK i).cs,Al Bu v.cs,Al Bs v.cs]):=SS
        have HL:=Lv h1 0 q3 p3 (i:Int) m a3
        rw[hb1,show ((0:Nat):Int)+1=1 from rfl,N5] at HL
        refine(HL _ ((Aa SS).hp 2 rfl) N1.len N1.hj N1.ow N1.e hwf (by rw[N6];rfl) N3 hns).mono ?_
        clear HL
        rintro _ Y9 ⟨rfl,hb⟩
        replace SS:=Ac ((Aa SS).on hb)
        clear hb
        go_wp2_with (first|go_skip|((with_reducible show wpList ..);first|(refine zL (v.cs) 26 5 6 rwV szV (by rfl) rfl rfl SS rfl rfl rfl ?_;simp only[nn])|(refine zL (v.cs) 26 5 5 rwV szV (by rfl) rfl rfl SS rfl rfl rfl ?_;simp only[nn])))
        have HQ:=Js v v
        rw[Gh,Dk] at HQ
        refine(HQ _).mono ?_
        clear HQ
        rintro _ Y10 ⟨rfl,hb⟩
        replace SS:=Ac ((Aa SS).on hb)
        clear hb
        go_wp2_with fail
        go_roundg (4 - 2)
        case measure=>omega
        case rel=>exact⟨2,by first|rfl|go_num,by omega,by omega,Ac (Sy.left (L:= [_,_]) (Aa SS))⟩
     ·rw[show ((2:Nat):Int)=2 from rfl]
      clear hlt dlt
      as_aux_lemma=>
       go_wp2_with (first|go_skip|((with_reducible show wpList ..);first|(refine zA 26 (Bz.cs) (by rfl) rfl SS ?_;clear SS;intro Xu Bu SS;simp only[nn])|(refine zS (a.v.cs) 5 26 (by rfl) rfl rfl rfl rfl (Eb _) szV SS rfl ?_;clear SS;intro X4 SS;simp only[nn])|(refine zL ((idxK i).cs) 42 2 4 rwK szK (by rfl) rfl rfl SS rfl rfl rfl ?_;simp only[nn])))
       have HD:=ddel h q p i m a a.v
       rw[F.b] at HD
       simp only[Ec] at HD
       refine(HD _ ((Aa SS).hp 2 rfl) (Eu (Aa HT) (Aa SS).fr) F.k MM (by rw[F.f];decide) (by rw[F.ent,F.dep];decide) (by rw[F.ent,F.dep];decide) hpF).mono ?_
       clear HD
       rintro _ Y3 ⟨h1,y,er,rfl,hE,TD⟩
       have hb1:h1.b=B0:=TD.hb.trans F.b
       replace SS:=Ac ((Aa SS).heap 2 rfl TD)
       clear TD
       replace SS:Hid (Sy w _ [] [Al Bd d.cs,Al Bv v.cs,hpO h1,Al Bn Ag.cs,Al Bk (idxK i).cs,Al Bu a.v.cs]):=SS
       rcases hE with hE|hE
       ·obtain⟨c9,rfl, -, -,rfl⟩:=hE
        unfold La
        go_wp2_with fail
        go_roundg (4 - 3)
        case measure=>omega
        case rel=>exact⟨3,by first|rfl|go_num,by omega,by omega,Ac (Sy.left (L:= [_,_]) (Aa SS))⟩
       ·obtain⟨rfl,rfl,hFin⟩:=hE
        obtain⟨q3,p3,a3,N1,N2,N3,N4,N5,N6,N7⟩:=hFin
        go_wp2_with fail
        have HL:=Ju h1 0 q3 p3 a.n m a3
        rw[hb1,show ((0:Nat):Int)+1=1 from rfl] at HL
        refine(HL _ ((Aa SS).hp 2 rfl) N1.len N1.hj N1.ow N1.e hns N2 N3 (by rw[N4];exact has)).mono ?_
        clear HL
        rintro _ Y8 ⟨rfl,hb⟩
        replace SS:=Ac ((Aa SS).on hb)
        clear hb
        rw[N4,Dk]
        go_wp2_with (first|go_skip|((with_reducible show wpList ..);first|(refine zA 26 (Bz.cs) (by rfl) rfl SS ?_;clear SS;intro Xs Bs SS;simp only[nn])|(refine zS (a.v.cs) 6 26 (by rfl) rfl rfl rfl rfl (Eb _) szV SS rfl ?_;clear SS;intro X6 SS;simp only[nn])))
        replace SS:Hid (Sy w _ [] [Al Bd d.cs,Al Bv v.cs,hpO h1,Al Bn Ag.cs,Al Bk (idxK i).cs,Al Bu a.v.cs,Al Bs a.v.cs]):=SS
        have HL:=Kd h1 0 q3 p3 (i:Int)
        rw[hb1,show ((0:Nat):Int)+1=1 from rfl] at HL
        refine(HL _ ((Aa SS).hp 2 rfl) N1.len N1.hj N1.ow N1.e hwf (by rw[N6];rfl)).mono ?_
        clear HL
        rintro _ Y9 ⟨rfl,hb⟩
        replace SS:=Ac ((Aa SS).on hb)
        clear hb
        go_wp2_with (first|go_skip|((with_reducible show wpList ..);first|(refine zL (a.v.cs) 26 5 6 rwV szV (by rfl) rfl rfl SS rfl rfl rfl ?_;simp only[nn])|(refine zL (a.v.cs) 26 5 5 rwV szV (by rfl) rfl rfl SS rfl rfl rfl ?_;simp only[nn])))
        have HQ:=Js a.v a.v
        rw[Gh,Dk] at HQ
        refine(HQ _).mono ?_
        clear HQ
        rintro _ Y10 ⟨rfl,hb⟩
        replace SS:=Ac ((Aa SS).on hb)
        clear hb
        go_wp2_with fail
        go_roundg (4 - 3)
        case measure=>omega
        case rel=>exact⟨3,by first|rfl|go_num,by omega,by omega,Ac (Sy.left (L:= [_,_]) (Aa SS))⟩
     ·rw[show ((3:Nat):Int)=3 from rfl]
      clear hlt dlt
      as_aux_lemma=>
       go_wp2_with (first|go_skip|((with_reducible show wpList ..);first|(refine zA 26 (Bz.cs) (by rfl) rfl SS ?_;clear SS;intro Xu Bu SS;simp only[nn])|(refine zS (a.v.cs) 5 26 (by rfl) rfl rfl rfl rfl (Eb _) szV SS rfl ?_;clear SS;intro X4 SS;simp only[nn])|(refine zL (Ag.cs) 26 5 3 rwV szV (by rfl) rfl rfl SS rfl rfl rfl ?_;simp only[nn])))
       have HD:=make_h h
       rw[F.b,F.ln,Dk,show ((1:Nat):Int)+1=2 from rfl] at HD
       refine(HD _ ((Aa SS).hp 2 rfl) (Eu (Aa HT) (Aa SS).fr) (by decide) (by unfold Jk;rw[F.cap,F.ln];rfl)).mono ?_
       clear HD
       rintro _ Y2 ⟨gv,q2,rfl,e1,e2,e3,e4,TD⟩
       replace SS:=Ac ((Aa SS).heap 2 rfl TD)
       clear TD
       have MM2:=MM.more F.ln gv q2
       have NN2:=nb_more F.ln gv e1 e2 e3 e4
       have KK2:=F.k.more F.ln gv q2
       clear e1 e2 e3 e4
       go_wp2_with (first|go_skip|((with_reducible show wpList ..);first|(refine zL ((idxK i).cs) 42 2 4 rwK szK (by rfl) rfl rfl SS rfl rfl rfl ?_;simp only[nn])|(refine zL (v.cs) 26 5 1 rwV szV (by rfl) rfl rfl SS rfl rfl rfl ?_;simp only[nn])|(refine rd rfl (Rh (i:=2) rfl rfl) ?_)))
       have HD:=dseto (h.more gv q2) q p i m a a.v q2 v
       rw[show (h.more gv q2).b=B0 from F.b] at HD
       simp only[Ec,Dk] at HD
       refine(HD _ ((Aa SS).hp 2 rfl) (Eu (Aa HT) (Aa SS).fr) KK2 MM2 (by show 5<=h.fuel;rw[F.f];decide) (by show h.ent≠h.depth;rw[F.ent,F.dep];decide) (by show h.ent+1≠h.depth;rw[F.ent,F.dep];decide) hvx NN2 hpF).mono ?_
       clear HD
       rintro _ Y3 ⟨h1,y,er,rfl,hE,TD⟩
       have hb1:h1.b=B0:=TD.hb.trans F.b
       replace SS:=Ac ((Aa SS).heap 2 rfl TD)
       clear TD
       replace SS:Hid (Sy w _ [] [Al Bd d.cs,Al Bv v.cs,hpO h1,Al Bn Ag.cs,Al Bk (idxK i).cs,Al Bu a.v.cs]):=SS
       rcases hE with hE|hE
       ·obtain⟨c9,rfl, -, -, -⟩:=hE
        unfold La
        go_wp2_with fail
        go_roundg (4 - 4)
        case measure=>omega
        case rel=>exact⟨4,by first|rfl|go_num,by omega,by omega,Ac (Sy.left (L:= [_,_]) (Aa SS))⟩
       ·obtain⟨rfl,rfl,hvg,hFin⟩:=hE
        obtain⟨q3,p3,a3,N1,N2,N3,N4,N5,N6,N7⟩:=hFin
        go_wp2_with fail
        have HL:=Ju h1 0 q3 p3 a.n m a3
        rw[hb1,show ((0:Nat):Int)+1=1 from rfl] at HL
        refine(HL _ ((Aa SS).hp 2 rfl) N1.len N1.hj N1.ow N1.e hns N2 N3 (by rw[N4];exact has)).mono ?_
        clear HL
        rintro _ Y8 ⟨rfl,hb⟩
        replace SS:=Ac ((Aa SS).on hb)
        clear hb
        rw[N4,Dk]
        go_wp2_with (first|go_skip|((with_reducible show wpList ..);first|(refine zA 26 (Bz.cs) (by rfl) rfl SS ?_;clear SS;intro Xs Bs SS;simp only[nn])|(refine zS (a.v.cs) 6 26 (by rfl) rfl rfl rfl rfl (Eb _) szV SS rfl ?_;clear SS;intro X6 SS;simp only[nn])))
        replace SS:Hid (Sy w _ [] [Al Bd d.cs,Al Bv v.cs,hpO h1,Al Bn Ag.cs,Al Bk (idxK i).cs,Al Bu a.v.cs,Al Bs a.v.cs]):=SS
        have HL:=Lv h1 0 q3 p3 (i:Int) m a3
        rw[hb1,show ((0:Nat):Int)+1=1 from rfl,N5] at HL
        refine(HL _ ((Aa SS).hp 2 rfl) N1.len N1.hj N1.ow N1.e hwf (by rw[N6];rfl) N3 hns).mono ?_
        clear HL
        rintro _ Y9 ⟨rfl,hb⟩
        replace SS:=Ac ((Aa SS).on hb)
        clear hb
        go_wp2_with (first|go_skip|((with_reducible show wpList ..);first|(refine zL (a.v.cs) 26 5 6 rwV szV (by rfl) rfl rfl SS rfl rfl rfl ?_;simp only[nn])|(refine zL (a.v.cs) 26 5 5 rwV szV (by rfl) rfl rfl SS rfl rfl rfl ?_;simp only[nn])))
        have HQ:=Js a.v a.v
        rw[Gh,Dk] at HQ
        refine(HQ _).mono ?_
        clear HQ
        rintro _ Y10 ⟨rfl,hb⟩
        replace SS:=Ac ((Aa SS).on hb)
        clear hb
        go_wp2_with fail
        go_roundg (4 - 4)
        case measure=>omega
        case rel=>exact⟨4,by first|rfl|go_num,by omega,by omega,Ac (Sy.left (L:= [_,_]) (Aa SS))⟩
  ·obtain rfl:t=4:=by omega
   clear hlt htl hgm
   rw[show ((4:Nat):Int)=4 from rfl]
   go_wp2_with fail
   go_ret
   exact⟨rfl,(Aa SS).fr.below⟩
