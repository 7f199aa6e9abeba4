import Derived.Test.YtieahhciibdnaaaGreatDoorRw
set_option linter.all false
namespace Go.Proofs.YtieahhciibdnaaaGreatDoor
set_option maxRecDepth 100000
set_option maxHeartbeats 0
section
open Go Go.Proofs Go.Maps Go.RowKit FM Tryz
attribute [local go_sem] Ak Ae Aq Dl Dk Bl Af Aj Ad Bj Et Es
theorem law_main (A PA:Option Addr) (c pc:Nat) (ns:List ByteArray) (ps:List PR) (r:VV) (w:World) (h6:6<=w.heap.size) (hT:Tabs w) (hN:ReadsN w A ns) (hP:Pj w PA ps) (hl:ns.length<=60) (hl2:ps.length<=60) (hFD: ∀p∈ps,FD p.d) (hOK: ∀p∈ps,OkK p.k) (hE:Ko ns=0):Calls prog 3 #[.slice A ns.length c, .slice PA ps.length pc,r.agg] w fun e w'=>e= .returned (.bool true)/\Below w.heap.size w w':=by
 have SS:=Ab (Sy.nil w [])
 have HT:=Ab hT
 have H6:=Ab h6
 have HN:=Ab hN
 have HP:=Ab hP
 clear hT h6 hN hP
 rw[Db]
 go_enter func3,ntmps3
 go_wp2_with (first|go_skip|((with_reducible show wpList ..);first|(refine zB 26 (r.cs) (by rfl) rfl rfl rfl SS ?_;clear SS;intro X5 B5 SS;simp only[nn])))
 refine(Pk _ (Nat.le_trans (Aa H6) (Aa SS).fr.size) ((Aa HT).on (Aa SS).fr.below)).mono ?_
 rintro _ Y ⟨rfl,hb⟩
 replace SS:=Ab ((Aa SS).on hb)
 clear hb
 have e60:decide ((60:Int)<(ns.length:Int))=false:=decide_eq_false (by omega)
 have f60:decide ((60:Int)<(ps.length:Int))=false:=decide_eq_false (by omega)
 have HFD:=Ab hFD
 have HOK:=Ab hOK
 clear hFD hOK
 go_upto_region 5 with (first|go_skip|((with_reducible show wpList ..);first|(refine rd rfl (Bo 22 9 underlying22 rfl rfl) ?_)|(refine rd rfl (Bo 23 50 underlying23 rfl rfl) ?_)|(refine rd rfl (Jm rfl rfl rfl e60) ?_)|(refine rd rfl (Jm rfl rfl rfl f60) ?_)))
 go_cut [48] from 40 to 49 (fun s48 wq=>CutQ w r B5 s48 wq)
 case first=>
  cases hg:r.good
  ·go_wp2_with (first|go_skip|((with_reducible show wpList ..);first|(refine zL (r.cs) 26 5 0 rwV szV (by rfl) rfl rfl SS rfl rfl rfl ?_;simp only[nn])))
   have HCK:=fun X hX=>Eo r X hX
   rw[hg] at HCK
   simp only[Db] at HCK
   refine(HCK _ (((Aa HT).on (Aa SS).fr.below)).1).mono ?_
   clear HCK
   rintro _ Y ⟨rfl,hb⟩
   replace SS:=Ab ((Aa SS).on hb)
   clear hb
   rw[show Nl false=5 from rfl]
   go_wp2_with fail
   refine(Ky 5 _).mono ?_
   rintro _ _ ⟨rfl,rfl⟩
   go_wp2_with fail
   go_meet
   case rel=>exact CutQ.mk true rfl (fun h=>by cases h) SS
  ·by_cases hk:r.k=7
   ·go_wp2_with (first|go_skip|((with_reducible show wpList ..);first|(refine zL (r.cs) 26 5 0 rwV szV (by rfl) rfl rfl SS rfl rfl rfl ?_;simp only[nn])))
    have HCK:=fun X hX=>Eo r X hX
    rw[hg] at HCK
    simp only[Db] at HCK
    refine(HCK _ (((Aa HT).on (Aa SS).fr.below)).1).mono ?_
    clear HCK
    rintro _ Y ⟨rfl,hb⟩
    replace SS:=Ab ((Aa SS).on hb)
    clear hb
    rw[show Nl true=0 from rfl]
    go_wp2_with fail
    refine(Ky 0 _).mono ?_
    rintro _ _ ⟨rfl,rfl⟩
    go_wp2_with (first|go_skip|((with_reducible show wpList ..);first|(refine z1 3 isAgg3 0 (by rfl) rfl rfl SS rfl rfl ?_;simp only[nn])|(refine rd rfl (Kg rfl rfl rfl hk) ?_)))
    go_meet
    case rel=>exact CutQ.mk true rfl (fun h=>by cases h) SS
   ·go_wp2_with (first|go_skip|((with_reducible show wpList ..);first|(refine zL (r.cs) 26 5 0 rwV szV (by rfl) rfl rfl SS rfl rfl rfl ?_;simp only[nn])))
    have HCK:=fun X hX=>Eo r X hX
    rw[hg] at HCK
    simp only[Db] at HCK
    refine(HCK _ (((Aa HT).on (Aa SS).fr.below)).1).mono ?_
    clear HCK
    rintro _ Y ⟨rfl,hb⟩
    replace SS:=Ab ((Aa SS).on hb)
    clear hb
    rw[show Nl true=0 from rfl]
    go_wp2_with fail
    refine(Ky 0 _).mono ?_
    rintro _ _ ⟨rfl,rfl⟩
    go_wp2_with (first|go_skip|((with_reducible show wpList ..);first|(refine z1 3 isAgg3 0 (by rfl) rfl rfl SS rfl rfl ?_;simp only[nn])|(refine rd rfl (Jz rfl rfl rfl hk) ?_)))
    go_meet
    case rel=>exact CutQ.mk false rfl (fun _=>⟨by unfold Aw;rw[List.all_cons,hg];rfl,by unfold Ap Lb;simp[hk]⟩) SS
 case rest=>
  clear SS
  obtain⟨bq,hs48,hq1,SS⟩:=hcut
  subst hs48
  have HQ:=Ab hq1
  clear hq1
  go_upto_if 48 with fail
  go_cut [] from 40 to 49 (fun wq=>CutP w B5 wq)
  case first=>
   cases bq
   ·go_wp2_with fail
    go_meet
    case rel=>exact CutP.mk r ((Aa HQ) (by trivial)).1 ((Aa HQ) (by trivial)).2 SS
   ·go_wp2_with fail
    refine(Gw _).mono ?_
    rintro _ Y ⟨rfl,hb⟩
    replace SS:=Ab ((Aa SS).on hb)
    clear hb
    rw[Db]
    go_wp2_with (first|go_skip|((with_reducible show wpList ..);first|(refine zS (nullV.cs) 0 26 (by rfl) rfl rfl rfl rfl (Ex _) szV SS rfl ?_;clear SS;intro Xz SS;simp only[nn])))
    go_meet
    case rel=>exact CutP.mk nullV nul_s nul_k SS
  case rest=>
   clear SS
   obtain⟨rc,hr1,hr2,SS⟩:=hcut
   go_wp2_with fail
   refine(Zbr 1 100000 10 _ (Nat.le_trans (Aa H6) (Aa SS).fr.size)).mono ?_
   rintro _ Y0 hN
   rcases hN with ⟨h9, -⟩|⟨-,B0,rfl,hI,hlo,hb⟩
   ·exact absurd h9 (by decide)
   replace SS:=Ab ((Aa SS).newh hI hb (fun b hb=>by rw[Kz] at hb;rw[List.mem_singleton.1 hb];exact hlo))
   clear hI hlo hb
   go_wp2_with fail
   refine(Ky 0 _).mono ?_
   rintro _ _ ⟨rfl,rfl⟩
   go_wp2_with fail
   refine(new_ns (Js B0 1 100000 10) A c ns _ ((Aa SS).hp 1 rfl) ((Aa HT).on (Aa SS).fr.below) (new_ok B0 100000 (by decide) (by decide)) rfl rfl (show (1:Int)<=1 by decide) ((Aa HN).fr (Aa SS).fr) (by omega) hE).mono ?_
   rintro _ Y1 ⟨h1,p1,rfl,hM,T1⟩
   replace SS:=Ab ((Aa SS).heap 1 rfl T1)
   clear T1
   have V:=LV.new hM rfl rfl rfl rfl
   rw[show (Js B0 1 100000 10).b=B0 from rfl,show (Js B0 1 100000 10).fuel=100000 from rfl] at V
   clear hM
   go_wp2_with fail
   refine(Ky 0 _).mono ?_
   rintro _ _ ⟨rfl,rfl⟩
   go_wp2_with (first|go_skip|((with_reducible show wpList ..);first|((refine mkT0 vR vD zeroV (by rfl) rfl (Aa SS) ?_);intro X1 Bm S1;replace SS:=Ab S1;clear S1;simp only[nn])))
   have HI0:Hid (LI1 w ns (rc) B5 B0 Bm 0 _):=Ab ⟨_,h1,p1,0,V.more (by omega) (by omega),Nat.le_refl _,Aa SS⟩
   clear SS V
   go_loopg [12] ps.length (fun gm s12 wr=> ∃i:Nat,s12= .int .i64 (i:Nat)/\i<=ps.length/\ps.length - i<=gm/\Hid (LI1 w ns (rc) B5 B0 Bm i wr))
   case atStart=>exact⟨0,rfl,by omega,by omega,HI0⟩
   case round=>
    clear HI0
    obtain⟨i,rfl,hil,hgm,HI⟩:=hrel
    by_cases hlt:i<ps.length
    ·as_aux_lemma=>
      have dlt:decide ((i:Int)<(ps.length:Int))=true:=decide_eq_true (by omega)
      have hw1:IntKind.i64.wrap ((i:Int)+1)=(i:Int)+1:=by rw[IntKind.wrap_i64];omega
      obtain⟨pp,hp⟩: ∃pp,ps[i]? =some pp:=⟨_,List.getElem?_eq_getElem hlt⟩
      obtain⟨b,off,hA,hb,hR⟩:=(Aa HP) i pp hp
      subst hA
      have HRK: ∀X:World,Fr w X []->X.rangeAt b (off+i * 20) pp.k.cs:=fun X k=>pr_key (Vo hR hb k)
      have HRD: ∀X:World,Fr w X []->X.rangeAt b (off+i * 20+2) pp.d.cs:=fun X k=>pr_desc (Vo hR hb k)
      have HRV: ∀X:World,Fr w X []->X.rangeAt b (off+i * 20+2) pp.d.v.cs:=fun X k=>pr_val (HRD X k)
      have hFd:=Aa HFD pp (List.mem_of_getElem? hp)
      have hok2:=Aa HOK pp (List.mem_of_getElem? hp)
      have hok:okN pp.k.s:=hok2.1
      obtain⟨F,h,p,n,V,hn,hS⟩:=Aa HI
      have SS:=Ab hS
      have hbV:=V.b
      obtain⟨q,N⟩:=V.ex
      have HLT:=Ab hlt
      clear hS HI hR hb hp
      go_wp2_with (first|go_skip|((with_reducible show wpList ..);first|(refine rd rfl (Bp 23 20 i unPs idPs rfl rfl rfl (Aa HLT)) ?_)|(refine rd rfl (Bo 23 50 underlying23 rfl rfl) ?_)|(refine rd rfl (Dy (vs:=pp.k.cs) 45 2 rwK szK rfl rfl (HRK _ (Aa SS).fr) rfl) ?_)|(refine zA 45 (Gv.cs) (by rfl) rfl SS ?_;clear SS;intro Xk Bk SS;simp only[nn])|(refine zS (pp.k.cs) 3 45 (by rfl) rfl rfl rfl rfl (oneK _) szK SS rfl ?_;clear SS;intro Xz SS;simp only[nn])|(refine rd rfl (Dy (vs:=pp.d.v.cs) 26 5 rwV szV rfl rfl (HRV _ (Aa SS).fr) rfl) ?_)|(refine zA 26 (zeroV.cs) (by rfl) rfl SS ?_;clear SS;intro Xv Bv SS;simp only[nn])|(refine zS (pp.d.v.cs) 4 26 (by rfl) rfl rfl rfl rfl (Ex _) szV SS rfl ?_;clear SS;intro Xz2 SS;simp only[nn])|(refine zL (pp.k.cs) 45 2 3 rwK szK (by rfl) rfl rfl SS rfl rfl rfl ?_;simp only[nn])))
      have HC:=Lu pp.k _ (((Aa HT).on (Aa SS).fr.below)).1
      rw[Dg] at HC
      refine HC.mono ?_
      clear HC
      rintro _ Y ⟨rfl,hb⟩
      replace SS:=Ab ((Aa SS).on hb)
      clear hb
      cases hg2:goodK pp.k
      ·as_aux_lemma=>
        rw[show Bh pp.k=5 by unfold Bh;rw[hg2];rfl]
        go_wp2_with fail
        refine(Ky 5 _).mono ?_
        rintro _ _ ⟨rfl,rfl⟩
        have HI4:Hid (LI1 w ns (rc) B5 B0 Bm (i+1) _):=Ab ⟨_,_,_,_,V.more (by omega) (by omega),by omega,Sy.left (L:= [_,_,_]) (M:= [_,_]) (Aa SS)⟩
        clear SS
        go_wp2
        go_roundg (ps.length - (i+1))
        case measure=>have:=Aa HLT;omega
        case rel=>exact⟨i+1,by go_num,by have:=Aa HLT;omega,by omega,HI4⟩
      ·as_aux_lemma=>
        rw[show Bh pp.k=0 by unfold Bh;rw[hg2];rfl]
        go_wp2_with fail
        refine(Ky 0 _).mono ?_
        rintro _ _ ⟨rfl,rfl⟩
        by_cases hm:i % 2=0
        ·have hm2:((i % 2:Nat):Int)=0:=by omega
         as_aux_lemma=>
          go_wp2_with (first|go_skip|((with_reducible show wpList ..);first|(refine rd rfl (Zdf rfl rfl rfl (by omega)) ?_)|(refine rd rfl (Kg rfl rfl rfl hm2) ?_)|(refine zL (pp.d.v.cs) 26 5 4 rwV szV (by rfl) rfl rfl SS rfl rfl rfl ?_;simp only[nn])))
          have HC:=Qv h pp.d.v _ ((Aa SS).hp 1 rfl) (((Aa HT).on (Aa SS).fr.below)).1
          rw[hbV,N.len,Db] at HC
          refine HC.mono ?_
          clear HC
          rintro _ Y ⟨rfl,hb⟩
          replace SS:=Ab ((Aa SS).on hb)
          clear hb
          by_cases hc:El 1 pp.d.v=0
          ·rw[hc]
           go_wp2_with fail
           refine(Ky 0 _).mono ?_
           rintro _ _ ⟨rfl,rfl⟩
           go_wp2_with (first|go_skip|((with_reducible show wpList ..);first|(refine z1 9 isAgg9 3 (by rfl) rfl rfl SS rfl rfl ?_;simp only[nn])|(refine zL (pp.d.v.cs) 26 5 4 rwV szV (by rfl) rfl rfl SS rfl rfl rfl ?_;simp only[nn])))
           cases hpf:p.pF pp.k.s with
           |none=>
            as_aux_lemma=>
             have HC:=Bind_no h 0 q p pp.k.s pp.d.v _ ((Aa SS).hp 1 rfl) ((Aa HT).on (Aa SS).fr.below) N.ns hok (by rw[N.len];exact hc) hpf
             rw[hbV,Db,show (((0:Nat):Int)+1)=1 from rfl] at HC
             refine HC.mono ?_
             clear HC
             rintro _ Y6 ⟨rfl,T6⟩
             replace SS:=Ab ((Aa SS).heap 1 rfl T6)
             clear T6
             go_wp2_with (first|go_skip|((with_reducible show wpList ..);first|(refine z1 9 isAgg9 3 (by rfl) rfl rfl SS rfl rfl ?_;simp only[nn])))
             refine(Zda A c ns pp.k.s _ ((Aa HN).fr (Aa SS).fr) (by omega)).mono ?_
             rintro _ Y ⟨hH,hb⟩
             replace SS:=Ab ((Aa SS).on hb)
             clear hb
             rcases hH with ⟨hm3,i3,rfl⟩|⟨-,rfl⟩
             ·exact absurd ((V.mem pp.k.s).2 hm3) (by rw[hpf];simp)
             go_wp2_with fail
             refine(Ky 7 _).mono ?_
             rintro _ _ ⟨rfl,rfl⟩
             go_wp2_with (first|go_skip|((with_reducible show wpList ..);first|(refine z1 9 isAgg9 3 (by rfl) rfl rfl SS rfl rfl ?_;simp only[nn])|(refine zL (pp.d.v.cs) 26 5 4 rwV szV (by rfl) rfl rfl SS rfl rfl rfl ?_;simp only[nn])))
             obtain⟨F2,h2,p2,mq,V2,hnn,hS2⟩: ∃F2 h2 p2 mq,LV ns B0 F2 (5 * i+1) (100000 - 30 * i) h2 p2/\mq<=i+1/\Sy w _ [] [Ao B5 rc.cs,hpO h2,Eb vR vD zeroV Bm mq F2,Ao Bk pp.k.cs,Ao Bv pp.d.v.cs]:=⟨_,_,_,_,V,by omega,Aa SS⟩
             clear SS
             have hS9:=hS2.drew
             clear hS2
             obtain⟨q2,N2⟩:=V2.ex
             have hb2:=V2.b
             have HC:=fun X hX hT2=>Vc h2 q2 p2 _ pp.k pp.d X hX hT2 N2 (by omega) (by have:=V2.f;omega) (by have:=V2.e;have:=V2.d;omega) hok2 hFd
             simp only[hb2,Dg,Lh] at HC
             as_aux_lemma=>
              refine wp_region_held_drew (P:=prog) (S:=fun X=> ∃o,Sy w X [] [Ao B5 rc.cs,o,Eb vR vD zeroV Bm mq F2,Ao Bk pp.k.cs,Ao Bv pp.d.v.cs]) (by kernel_rfl) (⟨_,hS9⟩) (fun hS0=> ?_)
              refine gp 0 (some 139) (.pointer (some ⟨B0,0,none⟩)) rfl rfl (⟨_,hS9⟩) ?_
              refine gq 1 (some 140) (.agg pp.k.cs.toArray) rfl rfl (fun X hX=>Am (vs:=pp.k.cs) 45 2 rwK szK rfl rfl (hX.elim (fun _ hS=>hS.hold 3 rfl)) rfl rfl) (⟨_,hS9⟩) ?_
              refine gp 2 (some 141) (.slice (some ⟨b,off,none⟩) ps.length pc) rfl rfl (⟨_,hS9⟩) ?_
              refine gp 3 (some 142) (.int .i64 (i:Nat)) rfl rfl (⟨_,hS9⟩) ?_
              refine gq 4 (some 143) (.pointer (some ⟨b,off+i * 20,none⟩)) rfl rfl (fun X hX=>Bp 23 20 i unPs idPs rfl rfl rfl (Aa HLT)) (⟨_,hS9⟩) ?_
              refine gp 5 (some 144) (.pointer (some ⟨b,off+i * 20+2,none⟩)) rfl rfl (⟨_,hS9⟩) ?_
              refine gq 6 (some 145) (.agg pp.d.cs.toArray) rfl rfl (fun X hX=>Dy (vs:=pp.d.cs) 48 18 rwD szD rfl rfl (hX.elim (fun _ hS=>HRD _ hS.fr)) rfl) (⟨_,hS9⟩) ?_
              refine gr (rs:= [7]) (gc 7 (some 146) rfl rfl (HC _ (hS9.hp 1 rfl) ((Aa HT).on hS9.fr.below)) ?_ gn)
              rintro e Yx1 ⟨h3,y3,e3,rfl,hR3,T3⟩
              have hqx1:=Sy.heap hS9 1 rfl T3
              refine⟨_,rfl,⟨_,hqx1⟩, ?_⟩
              refine dn ?_
              try simp only[nn]
              have V3:=V2.rt hR3
              have hb3:=V3.b
              obtain⟨q3,N3⟩:=V3.ex
              clear HC
              have HC:=fun X hX hT2=>Va h3 q3 p2 _ pp.k pp.d.v (Pz 1) X hX hT2 N3 (by omega) (by have:=V3.f;omega) (by have:=V3.e;have:=V3.d;omega)
              simp only[hb3,Dg,Db] at HC
              have HRF:=fun X hX=>Nv 1 (by decide) (by decide) X hX
              simp only[Db] at HRF
              have SS:=Ab hqx1
              clear hqx1
              go_wp2_with fail
              have hS8:Sy w _ [] [Ao B5 rc.cs,hpO h3,Eb vR vD zeroV Bm mq F2,Ao Bk pp.k.cs,Ao Bv pp.d.v.cs]:=(Aa SS).drew
              clear SS
              as_aux_lemma=>
               refine wp_region_held_drew (P:=prog) (S:=fun X=> ∃o,Sy w X [] [Ao B5 rc.cs,o,Eb vR vD zeroV Bm mq F2,Ao Bk pp.k.cs,Ao Bv pp.d.v.cs]) (by kernel_rfl) (⟨_,hS8⟩) (fun hS0=> ?_)
               refine gp 0 (some 147) (.pointer (some ⟨B0,0,none⟩)) rfl rfl (⟨_,hS8⟩) ?_
               refine gq 1 (some 148) (.agg pp.k.cs.toArray) rfl rfl (fun X hX=>Am (vs:=pp.k.cs) 45 2 rwK szK rfl rfl (hX.elim (fun _ hS=>hS.hold 3 rfl)) rfl rfl) (⟨_,hS8⟩) ?_
               refine gq 2 (some 149) (.agg pp.d.v.cs.toArray) rfl rfl (fun X hX=>Am (vs:=pp.d.v.cs) 26 5 rwV szV rfl rfl (hX.elim (fun _ hS=>hS.hold 4 rfl)) rfl rfl) (⟨_,hS8⟩) ?_
               refine gr (rs:= [3]) (gc 3 (some 150) rfl rfl (HRF _ ((Aa HT).on hS8.fr.below).1) ?_ gn)
               rintro e Yy1 ⟨rfl,hYy1⟩
               have hqy1:=Sy.on hS8 hYy1
               refine⟨_,rfl,⟨_,hqy1⟩, ?_⟩
               simp only[nn]
               refine gr (rs:= [4]) (gc 4 (some 151) rfl rfl (HC _ (hqy1.hp 1 rfl) ((Aa HT).on hqy1.fr.below)) ?_ gn)
               rintro e Yy2 ⟨h4,y4,e4,rfl,hR4,T4⟩
               have hqy2:=Sy.heap hqy1 1 rfl T4
               refine⟨_,rfl,⟨_,hqy2⟩, ?_⟩
               refine dn ?_
               try simp only[nn]
               have SS:=Ab hqy2
               clear hqy2
               have V4:=V3.rt hR4
               have hb4:=V4.b
               obtain⟨q4,N4⟩:=V4.ex
               clear HC
               go_wp2_with (first|go_skip|((with_reducible show wpList ..);first|(refine zL (pp.k.cs) 45 2 3 rwK szK (by rfl) rfl rfl SS rfl rfl rfl ?_;simp only[nn])))
               have HC:=Vb h4 q4 p2 _ pp.k _ ((Aa SS).hp 1 rfl) ((Aa HT).on (Aa SS).fr.below) N4 (by omega) (by have:=V4.f;omega) (by have:=V4.e;have:=V4.d;omega) hok2
               rw[hb4,Dg] at HC
               refine HC.mono ?_
               clear HC
               rintro _ Y ⟨h5,y,er,rfl,hR,T⟩
               replace SS:=Ab ((Aa SS).heap 1 rfl T)
               clear T
               have V5:=V4.rt hR
               have hb5:=V5.b
               obtain⟨q5,N5⟩:=V5.ex
               clear hR
               go_wp2_with fail
               refine(Gw _).mono ?_
               rintro _ Y ⟨rfl,hb⟩
               replace SS:=Ab ((Aa SS).on hb)
               clear hb
               rw[Db]
               go_wp2_with fail
               have HC:=Qs h5 q5 p2 _ _ ((Aa SS).hp 1 rfl) ((Aa HT).on (Aa SS).fr.below) N5 (by omega) (by have:=V5.f;omega) (by have:=V5.e;have:=V5.d;omega)
               rw[hb5,Db] at HC
               refine HC.mono ?_
               clear HC
               rintro _ Y ⟨h6,y,er,rfl,hR,T⟩
               replace SS:=Ab ((Aa SS).heap 1 rfl T)
               clear T
               have V6:=V5.rt hR
               have hb6:=V6.b
               obtain⟨q6,N6⟩:=V6.ex
               clear hR
               go_wp2_with fail
               have HC:=Qt h6 q6 p2 _ _ ((Aa SS).hp 1 rfl) ((Aa HT).on (Aa SS).fr.below) N6 (by omega) (by have:=V6.f;omega) (by have:=V6.e;have:=V6.d;omega)
               rw[hb6] at HC
               refine HC.mono ?_
               clear HC
               rintro _ Y ⟨h7,y,er,rfl,hR,T⟩
               replace SS:=Ab ((Aa SS).heap 1 rfl T)
               clear T
               have V7:=V6.rt hR
               have hb7:=V7.b
               obtain⟨q7,N7⟩:=V7.ex
               clear hR
               have HI4:Hid (LI1 w ns (rc) B5 B0 Bm (i+1) _):=Ab ⟨_,_,_,_,V7.more (by omega) (by omega),by omega,Sy.left (L:= [_,_,_]) (M:= [_,_]) (Aa SS)⟩
               clear SS
               go_wp2
               go_roundg (ps.length - (i+1))
               case measure=>have:=Aa HLT;omega
               case rel=>exact⟨i+1,by go_num,by have:=Aa HLT;omega,by omega,HI4⟩
           |some ii=>
            as_aux_lemma=>
             have HC:=Zb2 h 0 q p pp.k.s pp.d.v ii _ ((Aa SS).hp 1 rfl) ((Aa HT).on (Aa SS).fr.below) N.ns hok (by rw[N.len];exact hc) hpf
             rw[hbV,Db,show (((0:Nat):Int)+1)=1 from rfl] at HC
             refine HC.mono ?_
             clear HC
             rintro _ Y6 ⟨rfl,T6⟩
             replace SS:=Ab ((Aa SS).heap 1 rfl T6)
             clear T6
             have VB:=V.bind hpf (chk_ok hc)
             go_wp2_with (first|go_skip|((with_reducible show wpList ..);first|(refine z1 9 isAgg9 3 (by rfl) rfl rfl SS rfl rfl ?_;simp only[nn])))
             refine(Zda A c ns pp.k.s _ ((Aa HN).fr (Aa SS).fr) (by omega)).mono ?_
             rintro _ Y ⟨hH,hb⟩
             replace SS:=Ab ((Aa SS).on hb)
             clear hb
             rcases hH with ⟨hm3,i3,rfl⟩|⟨hm3, -⟩
             rotate_left
             ·exact absurd ((V.mem pp.k.s).1 (by rw[hpf];rfl)) hm3
             go_wp2_with fail
             refine(Ky 0 _).mono ?_
             rintro _ _ ⟨rfl,rfl⟩
             go_wp2_with (first|go_skip|((with_reducible show wpList ..);first|(refine z1 9 isAgg9 3 (by rfl) rfl rfl SS rfl rfl ?_;simp only[nn])|(refine zL (pp.d.v.cs) 26 5 4 rwV szV (by rfl) rfl rfl SS rfl rfl rfl ?_;simp only[nn])|((refine upT 2 pp.d.v encV encTV (by rfl) rfl rfl rfl rfl hok (by have:=Aa HLT;unfold maxLen;omega) (Aa SS) rfl ?_);intro X3 S3;replace SS:=Ab S3;clear S3;simp only[nn])))
             obtain⟨F2,h2,p2,mq,V2,hnn,hS2⟩: ∃F2 h2 p2 mq,LV ns B0 F2 (5 * i+1) (100000 - 30 * i) h2 p2/\mq<=i+1/\Sy w _ [] [Ao B5 rc.cs,hpO h2,Eb vR vD zeroV Bm mq F2,Ao Bk pp.k.cs,Ao Bv pp.d.v.cs]:=⟨_,_,_,_,VB,by omega,Aa SS⟩
             clear SS
             have hS9:=hS2.drew
             clear hS2
             obtain⟨q2,N2⟩:=V2.ex
             have hb2:=V2.b
             have HC:=fun X hX hT2=>Vc h2 q2 p2 _ pp.k pp.d X hX hT2 N2 (by omega) (by have:=V2.f;omega) (by have:=V2.e;have:=V2.d;omega) hok2 hFd
             simp only[hb2,Dg,Lh] at HC
             as_aux_lemma=>
              refine wp_region_held_drew (P:=prog) (S:=fun X=> ∃o,Sy w X [] [Ao B5 rc.cs,o,Eb vR vD zeroV Bm mq F2,Ao Bk pp.k.cs,Ao Bv pp.d.v.cs]) (by kernel_rfl) (⟨_,hS9⟩) (fun hS0=> ?_)
              refine gp 0 (some 139) (.pointer (some ⟨B0,0,none⟩)) rfl rfl (⟨_,hS9⟩) ?_
              refine gq 1 (some 140) (.agg pp.k.cs.toArray) rfl rfl (fun X hX=>Am (vs:=pp.k.cs) 45 2 rwK szK rfl rfl (hX.elim (fun _ hS=>hS.hold 3 rfl)) rfl rfl) (⟨_,hS9⟩) ?_
              refine gp 2 (some 141) (.slice (some ⟨b,off,none⟩) ps.length pc) rfl rfl (⟨_,hS9⟩) ?_
              refine gp 3 (some 142) (.int .i64 (i:Nat)) rfl rfl (⟨_,hS9⟩) ?_
              refine gq 4 (some 143) (.pointer (some ⟨b,off+i * 20,none⟩)) rfl rfl (fun X hX=>Bp 23 20 i unPs idPs rfl rfl rfl (Aa HLT)) (⟨_,hS9⟩) ?_
              refine gp 5 (some 144) (.pointer (some ⟨b,off+i * 20+2,none⟩)) rfl rfl (⟨_,hS9⟩) ?_
              refine gq 6 (some 145) (.agg pp.d.cs.toArray) rfl rfl (fun X hX=>Dy (vs:=pp.d.cs) 48 18 rwD szD rfl rfl (hX.elim (fun _ hS=>HRD _ hS.fr)) rfl) (⟨_,hS9⟩) ?_
              refine gr (rs:= [7]) (gc 7 (some 146) rfl rfl (HC _ (hS9.hp 1 rfl) ((Aa HT).on hS9.fr.below)) ?_ gn)
              rintro e Yx1 ⟨h3,y3,e3,rfl,hR3,T3⟩
              have hqx1:=Sy.heap hS9 1 rfl T3
              refine⟨_,rfl,⟨_,hqx1⟩, ?_⟩
              refine dn ?_
              try simp only[nn]
              have V3:=V2.rt hR3
              have hb3:=V3.b
              obtain⟨q3,N3⟩:=V3.ex
              clear HC
              have HC:=fun X hX hT2=>Va h3 q3 p2 _ pp.k pp.d.v (Pz 1) X hX hT2 N3 (by omega) (by have:=V3.f;omega) (by have:=V3.e;have:=V3.d;omega)
              simp only[hb3,Dg,Db] at HC
              have HRF:=fun X hX=>Nv 1 (by decide) (by decide) X hX
              simp only[Db] at HRF
              have SS:=Ab hqx1
              clear hqx1
              go_wp2_with fail
              have hS8:Sy w _ [] [Ao B5 rc.cs,hpO h3,Eb vR vD zeroV Bm mq F2,Ao Bk pp.k.cs,Ao Bv pp.d.v.cs]:=(Aa SS).drew
              clear SS
              as_aux_lemma=>
               refine wp_region_held_drew (P:=prog) (S:=fun X=> ∃o,Sy w X [] [Ao B5 rc.cs,o,Eb vR vD zeroV Bm mq F2,Ao Bk pp.k.cs,Ao Bv pp.d.v.cs]) (by kernel_rfl) (⟨_,hS8⟩) (fun hS0=> ?_)
               refine gp 0 (some 147) (.pointer (some ⟨B0,0,none⟩)) rfl rfl (⟨_,hS8⟩) ?_
               refine gq 1 (some 148) (.agg pp.k.cs.toArray) rfl rfl (fun X hX=>Am (vs:=pp.k.cs) 45 2 rwK szK rfl rfl (hX.elim (fun _ hS=>hS.hold 3 rfl)) rfl rfl) (⟨_,hS8⟩) ?_
               refine gq 2 (some 149) (.agg pp.d.v.cs.toArray) rfl rfl (fun X hX=>Am (vs:=pp.d.v.cs) 26 5 rwV szV rfl rfl (hX.elim (fun _ hS=>hS.hold 4 rfl)) rfl rfl) (⟨_,hS8⟩) ?_
               refine gr (rs:= [3]) (gc 3 (some 150) rfl rfl (HRF _ ((Aa HT).on hS8.fr.below).1) ?_ gn)
               rintro e Yy1 ⟨rfl,hYy1⟩
               have hqy1:=Sy.on hS8 hYy1
               refine⟨_,rfl,⟨_,hqy1⟩, ?_⟩
               simp only[nn]
               refine gr (rs:= [4]) (gc 4 (some 151) rfl rfl (HC _ (hqy1.hp 1 rfl) ((Aa HT).on hqy1.fr.below)) ?_ gn)
               rintro e Yy2 ⟨h4,y4,e4,rfl,hR4,T4⟩
               have hqy2:=Sy.heap hqy1 1 rfl T4
               refine⟨_,rfl,⟨_,hqy2⟩, ?_⟩
               refine dn ?_
               try simp only[nn]
               have SS:=Ab hqy2
               clear hqy2
               have V4:=V3.rt hR4
               have hb4:=V4.b
               obtain⟨q4,N4⟩:=V4.ex
               clear HC
               go_wp2_with (first|go_skip|((with_reducible show wpList ..);first|(refine zL (pp.k.cs) 45 2 3 rwK szK (by rfl) rfl rfl SS rfl rfl rfl ?_;simp only[nn])))
               have HC:=Vb h4 q4 p2 _ pp.k _ ((Aa SS).hp 1 rfl) ((Aa HT).on (Aa SS).fr.below) N4 (by omega) (by have:=V4.f;omega) (by have:=V4.e;have:=V4.d;omega) hok2
               rw[hb4,Dg] at HC
               refine HC.mono ?_
               clear HC
               rintro _ Y ⟨h5,y,er,rfl,hR,T⟩
               replace SS:=Ab ((Aa SS).heap 1 rfl T)
               clear T
               have V5:=V4.rt hR
               have hb5:=V5.b
               obtain⟨q5,N5⟩:=V5.ex
               clear hR
               go_wp2_with fail
               refine(Gw _).mono ?_
               rintro _ Y ⟨rfl,hb⟩
               replace SS:=Ab ((Aa SS).on hb)
               clear hb
               rw[Db]
               go_wp2_with fail
               have HC:=Qs h5 q5 p2 _ _ ((Aa SS).hp 1 rfl) ((Aa HT).on (Aa SS).fr.below) N5 (by omega) (by have:=V5.f;omega) (by have:=V5.e;have:=V5.d;omega)
               rw[hb5,Db] at HC
               refine HC.mono ?_
               clear HC
               rintro _ Y ⟨h6,y,er,rfl,hR,T⟩
               replace SS:=Ab ((Aa SS).heap 1 rfl T)
               clear T
               have V6:=V5.rt hR
               have hb6:=V6.b
               obtain⟨q6,N6⟩:=V6.ex
               clear hR
               go_wp2_with fail
               have HC:=Qt h6 q6 p2 _ _ ((Aa SS).hp 1 rfl) ((Aa HT).on (Aa SS).fr.below) N6 (by omega) (by have:=V6.f;omega) (by have:=V6.e;have:=V6.d;omega)
               rw[hb6] at HC
               refine HC.mono ?_
               clear HC
               rintro _ Y ⟨h7,y,er,rfl,hR,T⟩
               replace SS:=Ab ((Aa SS).heap 1 rfl T)
               clear T
               have V7:=V6.rt hR
               have hb7:=V7.b
               obtain⟨q7,N7⟩:=V7.ex
               clear hR
               have HI4:Hid (LI1 w ns (rc) B5 B0 Bm (i+1) _):=Ab ⟨_,_,_,_,V7.more (by omega) (by omega),by omega,Sy.left (L:= [_,_,_]) (M:= [_,_]) (Aa SS)⟩
               clear SS
               go_wp2
               go_roundg (ps.length - (i+1))
               case measure=>have:=Aa HLT;omega
               case rel=>exact⟨i+1,by go_num,by have:=Aa HLT;omega,by omega,HI4⟩
          ·as_aux_lemma=>
            go_wp2_with fail
            refine(Ky _ _).mono ?_
            rintro _ _ ⟨rfl,rfl⟩
            go_wp2_with (first|go_skip|((with_reducible show wpList ..);first|(refine rd rfl (Jz rfl rfl rfl hc) ?_)))
            obtain⟨F2,h2,p2,mq,V2,hnn,hS2⟩: ∃F2 h2 p2 mq,LV ns B0 F2 (5 * i+1) (100000 - 30 * i) h2 p2/\mq<=i+1/\Sy w _ [] [Ao B5 rc.cs,hpO h2,Eb vR vD zeroV Bm mq F2,Ao Bk pp.k.cs,Ao Bv pp.d.v.cs]:=⟨_,_,_,_,V,by omega,Aa SS⟩
            clear SS
            have hS9:=hS2.drew
            clear hS2
            obtain⟨q2,N2⟩:=V2.ex
            have hb2:=V2.b
            have HC:=fun X hX hT2=>Vc h2 q2 p2 _ pp.k pp.d X hX hT2 N2 (by omega) (by have:=V2.f;omega) (by have:=V2.e;have:=V2.d;omega) hok2 hFd
            simp only[hb2,Dg,Lh] at HC
            as_aux_lemma=>
             refine wp_region_held_drew (P:=prog) (S:=fun X=> ∃o,Sy w X [] [Ao B5 rc.cs,o,Eb vR vD zeroV Bm mq F2,Ao Bk pp.k.cs,Ao Bv pp.d.v.cs]) (by kernel_rfl) (⟨_,hS9⟩) (fun hS0=> ?_)
             refine gp 0 (some 139) (.pointer (some ⟨B0,0,none⟩)) rfl rfl (⟨_,hS9⟩) ?_
             refine gq 1 (some 140) (.agg pp.k.cs.toArray) rfl rfl (fun X hX=>Am (vs:=pp.k.cs) 45 2 rwK szK rfl rfl (hX.elim (fun _ hS=>hS.hold 3 rfl)) rfl rfl) (⟨_,hS9⟩) ?_
             refine gp 2 (some 141) (.slice (some ⟨b,off,none⟩) ps.length pc) rfl rfl (⟨_,hS9⟩) ?_
             refine gp 3 (some 142) (.int .i64 (i:Nat)) rfl rfl (⟨_,hS9⟩) ?_
             refine gq 4 (some 143) (.pointer (some ⟨b,off+i * 20,none⟩)) rfl rfl (fun X hX=>Bp 23 20 i unPs idPs rfl rfl rfl (Aa HLT)) (⟨_,hS9⟩) ?_
             refine gp 5 (some 144) (.pointer (some ⟨b,off+i * 20+2,none⟩)) rfl rfl (⟨_,hS9⟩) ?_
             refine gq 6 (some 145) (.agg pp.d.cs.toArray) rfl rfl (fun X hX=>Dy (vs:=pp.d.cs) 48 18 rwD szD rfl rfl (hX.elim (fun _ hS=>HRD _ hS.fr)) rfl) (⟨_,hS9⟩) ?_
             refine gr (rs:= [7]) (gc 7 (some 146) rfl rfl (HC _ (hS9.hp 1 rfl) ((Aa HT).on hS9.fr.below)) ?_ gn)
             rintro e Yx1 ⟨h3,y3,e3,rfl,hR3,T3⟩
             have hqx1:=Sy.heap hS9 1 rfl T3
             refine⟨_,rfl,⟨_,hqx1⟩, ?_⟩
             refine dn ?_
             try simp only[nn]
             have V3:=V2.rt hR3
             have hb3:=V3.b
             obtain⟨q3,N3⟩:=V3.ex
             clear HC
             have HC:=fun X hX hT2=>Va h3 q3 p2 _ pp.k pp.d.v (Pz 1) X hX hT2 N3 (by omega) (by have:=V3.f;omega) (by have:=V3.e;have:=V3.d;omega)
             simp only[hb3,Dg,Db] at HC
             have HRF:=fun X hX=>Nv 1 (by decide) (by decide) X hX
             simp only[Db] at HRF
             have SS:=Ab hqx1
             clear hqx1
             go_wp2_with fail
             have hS8:Sy w _ [] [Ao B5 rc.cs,hpO h3,Eb vR vD zeroV Bm mq F2,Ao Bk pp.k.cs,Ao Bv pp.d.v.cs]:=(Aa SS).drew
             clear SS
             as_aux_lemma=>
              refine wp_region_held_drew (P:=prog) (S:=fun X=> ∃o,Sy w X [] [Ao B5 rc.cs,o,Eb vR vD zeroV Bm mq F2,Ao Bk pp.k.cs,Ao Bv pp.d.v.cs]) (by kernel_rfl) (⟨_,hS8⟩) (fun hS0=> ?_)
              refine gp 0 (some 147) (.pointer (some ⟨B0,0,none⟩)) rfl rfl (⟨_,hS8⟩) ?_
              refine gq 1 (some 148) (.agg pp.k.cs.toArray) rfl rfl (fun X hX=>Am (vs:=pp.k.cs) 45 2 rwK szK rfl rfl (hX.elim (fun _ hS=>hS.hold 3 rfl)) rfl rfl) (⟨_,hS8⟩) ?_
              refine gq 2 (some 149) (.agg pp.d.v.cs.toArray) rfl rfl (fun X hX=>Am (vs:=pp.d.v.cs) 26 5 rwV szV rfl rfl (hX.elim (fun _ hS=>hS.hold 4 rfl)) rfl rfl) (⟨_,hS8⟩) ?_
              refine gr (rs:= [3]) (gc 3 (some 150) rfl rfl (HRF _ ((Aa HT).on hS8.fr.below).1) ?_ gn)
              rintro e Yy1 ⟨rfl,hYy1⟩
              have hqy1:=Sy.on hS8 hYy1
              refine⟨_,rfl,⟨_,hqy1⟩, ?_⟩
              simp only[nn]
              refine gr (rs:= [4]) (gc 4 (some 151) rfl rfl (HC _ (hqy1.hp 1 rfl) ((Aa HT).on hqy1.fr.below)) ?_ gn)
              rintro e Yy2 ⟨h4,y4,e4,rfl,hR4,T4⟩
              have hqy2:=Sy.heap hqy1 1 rfl T4
              refine⟨_,rfl,⟨_,hqy2⟩, ?_⟩
              refine dn ?_
              try simp only[nn]
              have SS:=Ab hqy2
              clear hqy2
              have V4:=V3.rt hR4
              have hb4:=V4.b
              obtain⟨q4,N4⟩:=V4.ex
              clear HC
              go_wp2_with (first|go_skip|((with_reducible show wpList ..);first|(refine zL (pp.k.cs) 45 2 3 rwK szK (by rfl) rfl rfl SS rfl rfl rfl ?_;simp only[nn])))
              have HC:=Vb h4 q4 p2 _ pp.k _ ((Aa SS).hp 1 rfl) ((Aa HT).on (Aa SS).fr.below) N4 (by omega) (by have:=V4.f;omega) (by have:=V4.e;have:=V4.d;omega) hok2
              rw[hb4,Dg] at HC
              refine HC.mono ?_
              clear HC
              rintro _ Y ⟨h5,y,er,rfl,hR,T⟩
              replace SS:=Ab ((Aa SS).heap 1 rfl T)
              clear T
              have V5:=V4.rt hR
              have hb5:=V5.b
              obtain⟨q5,N5⟩:=V5.ex
              clear hR
              go_wp2_with fail
              refine(Gw _).mono ?_
              rintro _ Y ⟨rfl,hb⟩
              replace SS:=Ab ((Aa SS).on hb)
              clear hb
              rw[Db]
              go_wp2_with fail
              have HC:=Qs h5 q5 p2 _ _ ((Aa SS).hp 1 rfl) ((Aa HT).on (Aa SS).fr.below) N5 (by omega) (by have:=V5.f;omega) (by have:=V5.e;have:=V5.d;omega)
              rw[hb5,Db] at HC
              refine HC.mono ?_
              clear HC
              rintro _ Y ⟨h6,y,er,rfl,hR,T⟩
              replace SS:=Ab ((Aa SS).heap 1 rfl T)
              clear T
              have V6:=V5.rt hR
              have hb6:=V6.b
              obtain⟨q6,N6⟩:=V6.ex
              clear hR
              go_wp2_with fail
              have HC:=Qt h6 q6 p2 _ _ ((Aa SS).hp 1 rfl) ((Aa HT).on (Aa SS).fr.below) N6 (by omega) (by have:=V6.f;omega) (by have:=V6.e;have:=V6.d;omega)
              rw[hb6] at HC
              refine HC.mono ?_
              clear HC
              rintro _ Y ⟨h7,y,er,rfl,hR,T⟩
              replace SS:=Ab ((Aa SS).heap 1 rfl T)
              clear T
              have V7:=V6.rt hR
              have hb7:=V7.b
              obtain⟨q7,N7⟩:=V7.ex
              clear hR
              have HI4:Hid (LI1 w ns (rc) B5 B0 Bm (i+1) _):=Ab ⟨_,_,_,_,V7.more (by omega) (by omega),by omega,Sy.left (L:= [_,_,_]) (M:= [_,_]) (Aa SS)⟩
              clear SS
              go_wp2
              go_roundg (ps.length - (i+1))
              case measure=>have:=Aa HLT;omega
              case rel=>exact⟨i+1,by go_num,by have:=Aa HLT;omega,by omega,HI4⟩
        ·have hm2: ¬((i % 2:Nat):Int)=0:=by omega
         as_aux_lemma=>
          go_wp2_with (first|go_skip|((with_reducible show wpList ..);first|(refine rd rfl (Zdf rfl rfl rfl (by omega)) ?_)|(refine rd rfl (Jz rfl rfl rfl hm2) ?_)))
          obtain⟨F2,h2,p2,mq,V2,hnn,hS2⟩: ∃F2 h2 p2 mq,LV ns B0 F2 (5 * i+1) (100000 - 30 * i) h2 p2/\mq<=i+1/\Sy w _ [] [Ao B5 rc.cs,hpO h2,Eb vR vD zeroV Bm mq F2,Ao Bk pp.k.cs,Ao Bv pp.d.v.cs]:=⟨_,_,_,_,V,by omega,Aa SS⟩
          clear SS
          have hS9:=hS2.drew
          clear hS2
          obtain⟨q2,N2⟩:=V2.ex
          have hb2:=V2.b
          have HC:=fun X hX hT2=>Vc h2 q2 p2 _ pp.k pp.d X hX hT2 N2 (by omega) (by have:=V2.f;omega) (by have:=V2.e;have:=V2.d;omega) hok2 hFd
          simp only[hb2,Dg,Lh] at HC
          as_aux_lemma=>
           refine wp_region_held_drew (P:=prog) (S:=fun X=> ∃o,Sy w X [] [Ao B5 rc.cs,o,Eb vR vD zeroV Bm mq F2,Ao Bk pp.k.cs,Ao Bv pp.d.v.cs]) (by kernel_rfl) (⟨_,hS9⟩) (fun hS0=> ?_)
           refine gp 0 (some 139) (.pointer (some ⟨B0,0,none⟩)) rfl rfl (⟨_,hS9⟩) ?_
           refine gq 1 (some 140) (.agg pp.k.cs.toArray) rfl rfl (fun X hX=>Am (vs:=pp.k.cs) 45 2 rwK szK rfl rfl (hX.elim (fun _ hS=>hS.hold 3 rfl)) rfl rfl) (⟨_,hS9⟩) ?_
           refine gp 2 (some 141) (.slice (some ⟨b,off,none⟩) ps.length pc) rfl rfl (⟨_,hS9⟩) ?_
           refine gp 3 (some 142) (.int .i64 (i:Nat)) rfl rfl (⟨_,hS9⟩) ?_
           refine gq 4 (some 143) (.pointer (some ⟨b,off+i * 20,none⟩)) rfl rfl (fun X hX=>Bp 23 20 i unPs idPs rfl rfl rfl (Aa HLT)) (⟨_,hS9⟩) ?_
           refine gp 5 (some 144) (.pointer (some ⟨b,off+i * 20+2,none⟩)) rfl rfl (⟨_,hS9⟩) ?_
           refine gq 6 (some 145) (.agg pp.d.cs.toArray) rfl rfl (fun X hX=>Dy (vs:=pp.d.cs) 48 18 rwD szD rfl rfl (hX.elim (fun _ hS=>HRD _ hS.fr)) rfl) (⟨_,hS9⟩) ?_
           refine gr (rs:= [7]) (gc 7 (some 146) rfl rfl (HC _ (hS9.hp 1 rfl) ((Aa HT).on hS9.fr.below)) ?_ gn)
           rintro e Yx1 ⟨h3,y3,e3,rfl,hR3,T3⟩
           have hqx1:=Sy.heap hS9 1 rfl T3
           refine⟨_,rfl,⟨_,hqx1⟩, ?_⟩
           refine dn ?_
           try simp only[nn]
           have V3:=V2.rt hR3
           have hb3:=V3.b
           obtain⟨q3,N3⟩:=V3.ex
           clear HC
           have HC:=fun X hX hT2=>Va h3 q3 p2 _ pp.k pp.d.v (Pz 1) X hX hT2 N3 (by omega) (by have:=V3.f;omega) (by have:=V3.e;have:=V3.d;omega)
           simp only[hb3,Dg,Db] at HC
           have HRF:=fun X hX=>Nv 1 (by decide) (by decide) X hX
           simp only[Db] at HRF
           have SS:=Ab hqx1
           clear hqx1
           go_wp2_with fail
           have hS8:Sy w _ [] [Ao B5 rc.cs,hpO h3,Eb vR vD zeroV Bm mq F2,Ao Bk pp.k.cs,Ao Bv pp.d.v.cs]:=(Aa SS).drew
           clear SS
           as_aux_lemma=>
            refine wp_region_held_drew (P:=prog) (S:=fun X=> ∃o,Sy w X [] [Ao B5 rc.cs,o,Eb vR vD zeroV Bm mq F2,Ao Bk pp.k.cs,Ao Bv pp.d.v.cs]) (by kernel_rfl) (⟨_,hS8⟩) (fun hS0=> ?_)
            refine gp 0 (some 147) (.pointer (some ⟨B0,0,none⟩)) rfl rfl (⟨_,hS8⟩) ?_
            refine gq 1 (some 148) (.agg pp.k.cs.toArray) rfl rfl (fun X hX=>Am (vs:=pp.k.cs) 45 2 rwK szK rfl rfl (hX.elim (fun _ hS=>hS.hold 3 rfl)) rfl rfl) (⟨_,hS8⟩) ?_
            refine gq 2 (some 149) (.agg pp.d.v.cs.toArray) rfl rfl (fun X hX=>Am (vs:=pp.d.v.cs) 26 5 rwV szV rfl rfl (hX.elim (fun _ hS=>hS.hold 4 rfl)) rfl rfl) (⟨_,hS8⟩) ?_
            refine gr (rs:= [3]) (gc 3 (some 150) rfl rfl (HRF _ ((Aa HT).on hS8.fr.below).1) ?_ gn)
            rintro e Yy1 ⟨rfl,hYy1⟩
            have hqy1:=Sy.on hS8 hYy1
            refine⟨_,rfl,⟨_,hqy1⟩, ?_⟩
            simp only[nn]
            refine gr (rs:= [4]) (gc 4 (some 151) rfl rfl (HC _ (hqy1.hp 1 rfl) ((Aa HT).on hqy1.fr.below)) ?_ gn)
            rintro e Yy2 ⟨h4,y4,e4,rfl,hR4,T4⟩
            have hqy2:=Sy.heap hqy1 1 rfl T4
            refine⟨_,rfl,⟨_,hqy2⟩, ?_⟩
            refine dn ?_
            try simp only[nn]
            have SS:=Ab hqy2
            clear hqy2
            have V4:=V3.rt hR4
            have hb4:=V4.b
            obtain⟨q4,N4⟩:=V4.ex
            clear HC
            go_wp2_with (first|go_skip|((with_reducible show wpList ..);first|(refine zL (pp.k.cs) 45 2 3 rwK szK (by rfl) rfl rfl SS rfl rfl rfl ?_;simp only[nn])))
            have HC:=Vb h4 q4 p2 _ pp.k _ ((Aa SS).hp 1 rfl) ((Aa HT).on (Aa SS).fr.below) N4 (by omega) (by have:=V4.f;omega) (by have:=V4.e;have:=V4.d;omega) hok2
            rw[hb4,Dg] at HC
            refine HC.mono ?_
            clear HC
            rintro _ Y ⟨h5,y,er,rfl,hR,T⟩
            replace SS:=Ab ((Aa SS).heap 1 rfl T)
            clear T
            have V5:=V4.rt hR
            have hb5:=V5.b
            obtain⟨q5,N5⟩:=V5.ex
            clear hR
            go_wp2_with fail
            refine(Gw _).mono ?_
            rintro _ Y ⟨rfl,hb⟩
            replace SS:=Ab ((Aa SS).on hb)
            clear hb
            rw[Db]
            go_wp2_with fail
            have HC:=Qs h5 q5 p2 _ _ ((Aa SS).hp 1 rfl) ((Aa HT).on (Aa SS).fr.below) N5 (by omega) (by have:=V5.f;omega) (by have:=V5.e;have:=V5.d;omega)
            rw[hb5,Db] at HC
            refine HC.mono ?_
            clear HC
            rintro _ Y ⟨h6,y,er,rfl,hR,T⟩
            replace SS:=Ab ((Aa SS).heap 1 rfl T)
            clear T
            have V6:=V5.rt hR
            have hb6:=V6.b
            obtain⟨q6,N6⟩:=V6.ex
            clear hR
            go_wp2_with fail
            have HC:=Qt h6 q6 p2 _ _ ((Aa SS).hp 1 rfl) ((Aa HT).on (Aa SS).fr.below) N6 (by omega) (by have:=V6.f;omega) (by have:=V6.e;have:=V6.d;omega)
            rw[hb6] at HC
            refine HC.mono ?_
            clear HC
            rintro _ Y ⟨h7,y,er,rfl,hR,T⟩
            replace SS:=Ab ((Aa SS).heap 1 rfl T)
            clear T
            have V7:=V6.rt hR
            have hb7:=V7.b
            obtain⟨q7,N7⟩:=V7.ex
            clear hR
            have HI4:Hid (LI1 w ns (rc) B5 B0 Bm (i+1) _):=Ab ⟨_,_,_,_,V7.more (by omega) (by omega),by omega,Sy.left (L:= [_,_,_]) (M:= [_,_]) (Aa SS)⟩
            clear SS
            go_wp2
            go_roundg (ps.length - (i+1))
            case measure=>have:=Aa HLT;omega
            case rel=>exact⟨i+1,by go_num,by have:=Aa HLT;omega,by omega,HI4⟩
    ·as_aux_lemma=>
      obtain rfl:i=ps.length:=by omega
      obtain⟨F,h,p,n,V,hn,hS⟩:=Aa HI
      have SS:=Ab hS
      have hbV:=V.b
      obtain⟨q,N⟩:=V.ex
      clear hS HI hlt hil hn
      go_wp2_with (first|go_skip|((with_reducible show wpList ..);first|(refine rd rfl (Bo 23 50 underlying23 rfl rfl) ?_)))
      have HC:=ZbQ h 0 q p _ ((Aa SS).hp 1 rfl) N.K N.ns N.tg ((Aa HT).on (Aa SS).fr.below) (by have:=N.last;omega) (by have:=V.f;omega) (by have:=V.e;have:=V.d;omega)
      rw[hbV,show (((0:Nat):Int)+1)=1 from rfl] at HC
      refine HC.mono ?_
      clear HC
      rintro _ Y2 ⟨v,rfl,hO,T2⟩
      obtain⟨K1,hK1⟩: ∃K1,K1=ns.length+1:=⟨_,rfl⟩
      have hKL:(Ez p).length=K1:=by rw[Zby,V.len,hK1]
      have S9:=OwnK.thing (Aa SS) 1 rfl T2 hO
      rw[hKL] at S9
      obtain⟨gz,ck,ev, -⟩:=Ox (S9.get 3 rfl) hKL (Rg p)
      subst ev
      have V1:=(V.rt (Uv N (by have:=V.f;omega))).more (L':=302) (fl':=98194) (by omega) (by omega)
      have HI2:Hid (LI2 w ns (rc) B5 B0 Bm n F p gz ck K1 0 _):=Ab ⟨h.less,V1.more (by omega) (by omega),S9⟩
      have SS:Hid True:=Ab trivial
      have HKL:=Ab hKL
      have HK1:=Ab hK1
      have HG:=Ab (Zx hE)
      have dk0:decide ((K1:Int)<(ns.length:Int))=false:=decide_eq_false (by omega)
      clear S9 T2 hO V N V1 hbV hKL hK1
      go_wp2_with (first|go_skip|((with_reducible show wpList ..);first|(refine rd rfl (Bo 62 45 underlying62 rfl rfl) ?_)|(refine rd rfl (Bo 22 9 underlying22 rfl rfl) ?_)|(refine rd rfl (ex_lsI rfl rfl rfl dk0) ?_)))
      go_loopg [20] K1 (fun gm s20 wr=> ∃i:Nat,s20= .int .i64 (i:Nat)/\i<=K1/\K1 - i<=gm/\Hid (LI2 w ns (rc) B5 B0 Bm n F p gz ck K1 i wr))
      case atStart=>exact⟨0,rfl,by omega,by omega,HI2⟩
      case round=>
       clear HI2 SS dk0
       obtain⟨i,rfl,hil,hgm,HI⟩:=hrel
       by_cases hlt:i<K1
       ·as_aux_lemma=>
         have dlt:decide ((i:Int)<(K1:Int))=true:=decide_eq_true (by omega)
         have hw1:IntKind.i64.wrap ((i:Int)+1)=(i:Int)+1:=by have:=Aa HK1;rw[IntKind.wrap_i64];omega
         obtain⟨h2,V2,hS⟩:=Aa HI
         have SS:=Ab hS
         have hb2:=V2.b
         obtain⟨q2,N2⟩:=V2.ex
         have HLT:=Ab hlt
         have hi61:i<=60:=by have:=Aa HK1;omega
         clear hS HI
         by_cases hin:i<ns.length
         ·as_aux_lemma=>
           obtain⟨x,hx⟩: ∃x,p.l[i]? =some x:=⟨_,List.getElem?_eq_getElem (by rw[V2.len];exact hin)⟩
           have hxm:x.n∈ns:=V2.nm.mem_iff.1 (List.mem_map.2 ⟨x,List.mem_of_getElem? hx,rfl⟩)
           have hgx:goodK ⟨x.n,0⟩=true:=(Aa HG).1 x.n hxm
           have hxs:x.n.size<=1048576:=Qk hgx
           have hokx:okN x.n:=Nat.le_trans hxs (by decide)
           have hok2:OkK ⟨x.n,0⟩:=⟨hokx,rfl⟩
           have hfx:p.find x.n=some x:=find_ix N2.W hx
           have HKR: ∀X:World,X.ownsRow 0 45 2 (.slice (some ⟨gz,0,none⟩) K1 ck) K1 (flatK (Ez p))->X.rangeAt gz (0+i * 2) (KK.cs ⟨x.n,0⟩):=fun X hO=>by
            obtain⟨g2,c2,e2,e3⟩:=Ox hO (Aa HKL) (Uw hx)
            cases e2
            exact e3
           have HKS: ∀X:World,X.ownsRow 0 45 2 (.slice (some ⟨gz,0,none⟩) K1 ck) K1 (flatK (Ez p))->X.cell? ⟨gz,0+i * 2,none⟩=some (.string x.n):=fun X hO=>HKR X hO 0 _ rfl
           have HKY: ∀X:World,X.ownsRow 0 45 2 (.slice (some ⟨gz,0,none⟩) K1 ck) K1 (flatK (Ez p))->X.cell? ⟨gz,0+i * 2+1,none⟩=some (.int .i64 0):=fun X hO=>HKR X hO 1 _ rfl
           have HKSz: ∀X:World,X.ownsRow 0 45 2 (.slice (some ⟨gz,0,none⟩) K1 ck) K1 (flatK (Ez p))->X.cell? ⟨gz,i * 2,none⟩=some (.string x.n):=fun X hO=>by
            have h9:=HKS X hO
            rwa [Nat.zero_add] at h9
           have HKYz: ∀X:World,X.ownsRow 0 45 2 (.slice (some ⟨gz,0,none⟩) K1 ck) K1 (flatK (Ez p))->X.cell? ⟨gz,i * 2+1,none⟩=some (.int .i64 0):=fun X hO=>by
            have h9:=HKY X hO
            rwa [Nat.zero_add] at h9
           have dl2:decide ((i:Int)<(ns.length:Int))=true:=decide_eq_true (by omega)
           go_wp2_with (first|go_skip|((with_reducible show wpList ..);first|(refine rd rfl (Bo 62 45 underlying62 rfl rfl) ?_)|(refine rd rfl (Bp 62 2 i Mp Mr rfl rfl rfl (Aa HLT)) ?_)|(refine rd rfl (Dy (vs:=KK.cs ⟨x.n,0⟩) 45 2 rwK szK rfl rfl (HKR _ ((Aa SS).get 3 rfl)) rfl) ?_)))
           have HC:=Zdi h2 q2 p _ ⟨x.n,0⟩ _ ((Aa SS).hp 1 rfl) ((Aa HT).on (Aa SS).fr.below) N2 (by omega) (by have:=V2.f;omega) (by have:=V2.e;have:=V2.d;omega) hok2 hgx (.inl ⟨rfl,by rw[hfx];rfl⟩)
           rw[hb2,Dg] at HC
           refine HC.mono ?_
           clear HC
           rintro _ Y ⟨h3,rfl,hR3,T3⟩
           replace SS:=Ab ((Aa SS).heap 1 rfl T3)
           clear T3
           have V3:=V2.rt hR3
           have hb3:=V3.b
           obtain⟨q3,N3⟩:=V3.ex
           clear hR3
           go_wp2_with (first|go_skip|((with_reducible show wpList ..);first|(refine rd rfl (Bp 62 2 i Mp Mr rfl rfl rfl (Aa HLT)) ?_)|(refine rd rfl (Dc 9 isAgg9 rfl rfl (HKS _ ((Aa SS).get 3 rfl))) ?_)|(refine rd rfl (Dc 9 isAgg9 rfl rfl (HKSz _ ((Aa SS).get 3 rfl))) ?_)))
           refine(Zda A c ns x.n _ ((Aa HN).fr (Aa SS).fr) (by omega)).mono ?_
           rintro _ Y ⟨hH,hb⟩
           replace SS:=Ab ((Aa SS).on hb)
           clear hb
           rcases hH with ⟨-,i3,rfl⟩|⟨hm3, -⟩
           rotate_left
           ·exact absurd hxm hm3
           go_upto_region 44 with (first|go_skip|((with_reducible show wpList ..);first|(refine rd rfl (Bp 62 2 i Mp Mr rfl rfl rfl (Aa HLT)) ?_)|(refine rd rfl (Dc 3 isAgg3 rfl rfl (HKY _ ((Aa SS).get 3 rfl))) ?_)|(refine rd rfl (Dc 3 isAgg3 rfl rfl (HKYz _ ((Aa SS).get 3 rfl))) ?_)|(refine rd rfl (Bo 22 9 underlying22 rfl rfl) ?_)))
           go_cut [237] from 174 to 306 (fun s237 wq=>s237= .bool (decide ((0:Int)<(i:Int)))/\Hid (Sy w wq [] [Ao B5 rc.cs,hpO h3,Eb vR vD zeroV Bm n F,Do 0 45 2 (.slice (some ⟨gz,0,none⟩) K1 ck) K1 (flatK (Ez p))]))
           case first=>
            by_cases hi0:i=0
            ·have dg:decide ((0:Int)<(i:Int))=false:=decide_eq_false (by omega)
             clear hi0
             go_wp2_with (first|go_skip|((with_reducible show wpList ..);first|(refine rd rfl (Bo 22 9 underlying22 rfl rfl) ?_)|(refine rd rfl (Rr rfl rfl rfl dg) ?_)))
             go_meet
             case rel=>exact⟨by rw[dg],SS⟩
            ·have dg:decide ((0:Int)<(i:Int))=true:=decide_eq_true (by omega)
             clear hi0
             go_wp2_with (first|go_skip|((with_reducible show wpList ..);first|(refine rd rfl (Bo 22 9 underlying22 rfl rfl) ?_)|(refine rd rfl (Rr rfl rfl rfl dg) ?_)))
             go_meet
             case rel=>exact⟨by rw[dg],SS⟩
           case rest=>
            clear SS
            obtain⟨hs237,SS⟩:=hcut
            subst hs237
            go_upto_if 237 with fail
            go_cut [] from 174 to 306 (fun wq=>Hid (Sy w wq [] [Ao B5 rc.cs,hpO h3,Eb vR vD zeroV Bm n F,Do 0 45 2 (.slice (some ⟨gz,0,none⟩) K1 ck) K1 (flatK (Ez p))]))
            case first=>
             by_cases hi0:i=0
             ·have dg:decide ((0:Int)<(i:Int))=false:=decide_eq_false (by omega)
              clear hi0
              rw[dg]
              go_wp2_with fail
              go_meet
              case rel=>exact SS
             ·as_aux_lemma=>
               obtain⟨i1,hi1⟩: ∃i1,i=i1+1:=⟨i - 1,by omega⟩
               obtain⟨x1,hx1⟩: ∃x1,p.l[i1]? =some x1:=⟨_,List.getElem?_eq_getElem (by rw[V2.len];omega)⟩
               have hcm:=V2.cmp (Aa HG) hx1 hx (by omega)
               have hxs1:x1.n.size<=1048576:=N2.W.sz x1 (List.mem_of_getElem? hx1)
               have HCM:=fun X hX=>Ug x1.n x.n (by omega) (by omega) X hX
               simp only[hcm.1,hcm.2] at HCM
               have HKR1: ∀X:World,X.ownsRow 0 45 2 (.slice (some ⟨gz,0,none⟩) K1 ck) K1 (flatK (Ez p))->X.rangeAt gz (0+i1 * 2) (KK.cs ⟨x1.n,0⟩):=fun X hO=>by
                obtain⟨g2,c2,e2,e3⟩:=Ox hO (Aa HKL) (Uw hx1)
                cases e2
                exact e3
               have HKS1: ∀X:World,X.ownsRow 0 45 2 (.slice (some ⟨gz,0,none⟩) K1 ck) K1 (flatK (Ez p))->X.cell? ⟨gz,0+i1 * 2,none⟩=some (.string x1.n):=fun X hO=>HKR1 X hO 0 _ rfl
               have HKY1: ∀X:World,X.ownsRow 0 45 2 (.slice (some ⟨gz,0,none⟩) K1 ck) K1 (flatK (Ez p))->X.cell? ⟨gz,0+i1 * 2+1,none⟩=some (.int .i64 0):=fun X hO=>HKR1 X hO 1 _ rfl
               have dg:decide ((0:Int)<(i:Int))=true:=decide_eq_true (by omega)
               have HI1:=Ab hi1
               clear hi1
               clear hi0
               rw[dg]
               go_upto_region 45 with fail
               have hS5:Sy w _ [] [Ao B5 rc.cs,hpO h3,Eb vR vD zeroV Bm n F,Do 0 45 2 (.slice (some ⟨gz,0,none⟩) K1 ck) K1 (flatK (Ez p))]:=(Aa SS).drew
               clear SS
               refine wp_region_held_drew (P:=prog) (S:=fun X=>Sy w X [] _) (by kernel_rfl) (hS5) (fun hS0=> ?_)
               refine gp 0 (some 239) (.slice (some ⟨gz,0,none⟩) K1 ck) rfl rfl (hS5) ?_
               refine gp 1 (some 240) (.int .i64 (i:Nat)) rfl rfl (hS5) ?_
               refine gq 2 (some 241) (.int .i64 (i1:Nat)) rfl rfl (fun X hX=>ex_subI rfl rfl rfl (Aa HI1) (by omega)) (hS5) ?_
               refine gq 3 (some 242) (.pointer (some ⟨gz,0+i1 * 2,none⟩)) rfl rfl (fun X hX=>Bp 62 2 i1 Mp Mr rfl rfl rfl (by have:=Aa HLT;have:=Aa HI1;omega)) (hS5) ?_
               refine gp 4 (some 243) (.pointer (some ⟨gz,0+i1 * 2,none⟩)) rfl rfl (hS5) ?_
               refine gq 5 (some 244) (.string x1.n) rfl rfl (fun X hX=>Dc 9 isAgg9 rfl rfl (HKS1 _ (hX.get 3 rfl))) (hS5) ?_
               refine gp 6 (some 245) (.slice (some ⟨gz,0,none⟩) K1 ck) rfl rfl (hS5) ?_
               refine gp 7 (some 246) (.int .i64 (i:Nat)) rfl rfl (hS5) ?_
               refine gq 8 (some 247) (.pointer (some ⟨gz,0+i * 2,none⟩)) rfl rfl (fun X hX=>Bp 62 2 i Mp Mr rfl rfl rfl (Aa HLT)) (hS5) ?_
               refine gp 9 (some 248) (.pointer (some ⟨gz,0+i * 2,none⟩)) rfl rfl (hS5) ?_
               refine gq 10 (some 249) (.string x.n) rfl rfl (fun X hX=>Dc 9 isAgg9 rfl rfl (HKS _ (hX.get 3 rfl))) (hS5) ?_
               refine gr (rs:= [11]) (gcB 11 (some 250) rfl rfl hS5 (HCM _ ((Aa HT).on hS5.fr.below).1) id ?_ gn)
               intro Yc1 hqc1
               refine gp 12 (some 238) (.tuple #[.int .i64 (-1), .int .i64 0]) rfl rfl (hqc1) ?_
               refine gp 13 (some 251) (.int .i64 (-1)) rfl rfl (hqc1) ?_
               refine gp 14 (some 252) (.int .i64 0) rfl rfl (hqc1) ?_
               refine gp 15 (some 25) (.int .i64 (-1)) rfl rfl (hqc1) ?_
               refine gp 16 (some 26) (.int .i64 0) rfl rfl (hqc1) ?_
               refine dn ?_
               try simp only[nn]
               have SS:=Ab hqc1
               clear hqc1
               go_wp2_with fail
               refine(Ky 0 _).mono ?_
               rintro _ _ ⟨rfl,rfl⟩
               go_wp2_with fail
               go_meet
               case rel=>exact SS
            case rest=>
             as_aux_lemma=>
              clear SS
              have SS:=hcut
              clear hcut
              go_upto_region 49 with (first|go_skip|((with_reducible show wpList ..);first|(refine rd rfl (Bp 62 2 i Mp Mr rfl rfl rfl (Aa HLT)) ?_)|(refine rd rfl (Dc 3 isAgg3 rfl rfl (HKY _ ((Aa SS).get 3 rfl))) ?_)|(refine rd rfl (Dc 3 isAgg3 rfl rfl (HKYz _ ((Aa SS).get 3 rfl))) ?_)))
              rcases V2.rel x.n x hfx with ⟨hF,hk0⟩|⟨hF,hk0⟩
              ·as_aux_lemma=>
                go_cut [27,28] from 174 to 306 (fun s27 s28 wq=>CutR w ns B0 F (rc) B5 Bm n p gz ck K1 i h3 x s27 s28 wq)
                case first=>
                 as_aux_lemma=>
                  have HC:=fun X hX hT2=>Zdj h3 q3 p _ ⟨x.n,0⟩ (rc) x X hX hT2 N3 (by omega) (by have:=V3.f;omega) (by have:=V3.e;have:=V3.d;omega) hok2 hgx rfl hr1 hr2 hfx hk0
                  simp only[hb3,Dg,Db] at HC
                  have hS9:Sy w _ [] [Ao B5 rc.cs,hpO h3,Eb vR vD zeroV Bm n F,Do 0 45 2 (.slice (some ⟨gz,0,none⟩) K1 ck) K1 (flatK (Ez p))]:=(Aa SS).drew
                  clear SS
                  refine wp_region_held_drew (P:=prog) (S:=fun X=> ∃(o:Ob) (M:List Ob),Sy w X [] (Ao B5 rc.cs::o::Eb vR vD zeroV Bm n F::Do 0 45 2 (.slice (some ⟨gz,0,none⟩) K1 ck) K1 (flatK (Ez p))::M)) (by kernel_rfl) (⟨_,_,hS9⟩) (fun hS0=> ?_)
                  refine gp 0 (some 267) (.pointer (some ⟨B0,0,none⟩)) rfl rfl (⟨_,_,hS9⟩) ?_
                  refine gp 1 (some 268) (.slice (some ⟨gz,0,none⟩) K1 ck) rfl rfl (⟨_,_,hS9⟩) ?_
                  refine gp 2 (some 269) (.int .i64 (i:Nat)) rfl rfl (⟨_,_,hS9⟩) ?_
                  refine gq 3 (some 270) (.pointer (some ⟨gz,0+i * 2,none⟩)) rfl rfl (fun X hX=>Bp 62 2 i Mp Mr rfl rfl rfl (Aa HLT)) (⟨_,_,hS9⟩) ?_
                  refine gq 4 (some 271) (.agg (KK.cs ⟨x.n,0⟩).toArray) rfl rfl (fun X hX=>Dy (vs:=KK.cs ⟨x.n,0⟩) 45 2 rwK szK rfl rfl (HKR _ (hX.elim fun _ h=>h.elim fun _ hS=>hS.get 3 rfl)) rfl) (⟨_,_,hS9⟩) ?_
                  refine gq 5 (some 272) (.agg (rc).cs.toArray) rfl rfl (fun X hX=>Am (vs:=(rc).cs) 26 5 rwV szV rfl rfl (hX.elim fun _ h=>h.elim fun _ hS=>hS.hold 0 rfl) rfl rfl) (⟨_,_,hS9⟩) ?_
                  refine gr (rs:= [6,10]) (gc 6 (some 273) rfl rfl (HC _ (hS9.hp 1 rfl) ((Aa HT).on hS9.fr.below)) ?_ (Lg (v:= .agg (zeroV.cs).toArray) 10 (some 27) 26 (zeroV.cs) rfl rfl (by kernel_rfl) rfl (fun w=>by kernel_rfl) rfl (Nat.succ_pos _) hS9 (fun _ hZ=>⟨_,_,hZ⟩) ?_ gn))
                  ·rintro e Yz1 ⟨B9,rfl,T4,hH4,hB4,ha4⟩
                   have hqz1:=Sy.badG hS9 1 rfl T4 hH4 hB4 ha4
                   refine⟨_,rfl,⟨_,_,hqz1⟩, ?_⟩
                   refine gp 7 (some 266) (.tuple #[.agg zeroV.cs.toArray, .iface 136 (.pointer (some ⟨B9,0,none⟩))]) rfl rfl (⟨_,_,hqz1⟩) ?_
                   refine gp 8 (some 274) (.agg zeroV.cs.toArray) rfl rfl (⟨_,_,hqz1⟩) ?_
                   refine gp 9 (some 275) (.iface 136 (.pointer (some ⟨B9,0,none⟩))) rfl rfl (⟨_,_,hqz1⟩) ?_
                   refine gr (rs:= [10]) (Lg (v:= .agg (zeroV.cs).toArray) 10 (some 27) 26 (zeroV.cs) rfl rfl (by kernel_rfl) rfl (fun w=>by kernel_rfl) rfl (Nat.succ_pos _) hqz1 (fun _ hZ=>⟨_,_,hZ⟩) ?_ gn)
                   intro Yz2 Bz2 hEz2 hqz2
                   clear hEz2
                   simp only[nn]
                   refine gr (rs:= [11]) (Jd (vs:=zeroV.cs) (new:=zeroV.cs) 11 5 26 rfl rfl (by kernel_rfl) rfl rfl rfl rfl (Ex _) szV hqz2 rfl (by simp[Bz,VV.cs,KK.cs,DD.cs,OB.cs,hcs,Ar,zeroV]) (by simp[Bz,VV.cs,KK.cs,DD.cs,OB.cs,hcs,Ar,zeroV]) (fun _ hZ=>⟨_,_,hZ⟩) ?_ gn)
                   intro Yz3 hqz3
                   refine gp 12 (some 28) (.iface 136 (.pointer (some ⟨B9,0,none⟩))) rfl rfl (⟨_,_,hqz3⟩) ?_
                   refine dn ?_
                   try simp only[nn]
                   have SS:=Ab hqz3
                   clear hqz3 HC
                   go_wp2_with fail
                   go_meet
                   case rel=>exact CutR.mk Bz2 B9 rfl rfl (Ab ((Aa SS).perm (((((List.Perm.swap _ _ _).cons _).cons _).cons _).cons _)))
                  ·intro Yz4 Bz4 hEz4 hqz4
                   clear hEz4
                   simp only[nn]
                   refine gr (rs:= [6]) (gc 6 (some 273) rfl rfl (HC _ (hqz4.hp 1 rfl) ((Aa HT).on hqz4.fr.below)) ?_ gn)
                   rintro e Yz5 ⟨B9,rfl,T4,hH4,hB4,ha4⟩
                   have hqz5:=Sy.badG hqz4 1 rfl T4 hH4 hB4 ha4
                   refine⟨_,rfl,⟨_,_,hqz5⟩, ?_⟩
                   refine gp 7 (some 266) (.tuple #[.agg zeroV.cs.toArray, .iface 136 (.pointer (some ⟨B9,0,none⟩))]) rfl rfl (⟨_,_,hqz5⟩) ?_
                   refine gp 8 (some 274) (.agg zeroV.cs.toArray) rfl rfl (⟨_,_,hqz5⟩) ?_
                   refine gp 9 (some 275) (.iface 136 (.pointer (some ⟨B9,0,none⟩))) rfl rfl (⟨_,_,hqz5⟩) ?_
                   refine gr (rs:= [11]) (Jd (vs:=zeroV.cs) (new:=zeroV.cs) 11 4 26 rfl rfl (by kernel_rfl) rfl rfl rfl rfl (Ex _) szV hqz5 rfl (by simp[Bz,VV.cs,KK.cs,DD.cs,OB.cs,hcs,Ar,zeroV]) (by simp[Bz,VV.cs,KK.cs,DD.cs,OB.cs,hcs,Ar,zeroV]) (fun _ hZ=>⟨_,_,hZ⟩) ?_ gn)
                   intro Yz6 hqz6
                   refine gp 12 (some 28) (.iface 136 (.pointer (some ⟨B9,0,none⟩))) rfl rfl (⟨_,_,hqz6⟩) ?_
                   refine dn ?_
                   try simp only[nn]
                   have SS:=Ab hqz6
                   clear hqz6 HC
                   go_wp2_with fail
                   go_meet
                   case rel=>exact CutR.mk Bz4 B9 rfl rfl SS
                case rest=>
                 as_aux_lemma=>
                  clear SS
                  obtain⟨B,B9,hs27,hs28,SS⟩:=hcut
                  subst hs27
                  subst hs28
                  have V4:=V3.rt (Uv N3 (by have:=V3.f;omega))
                  go_wp2_with (first|go_skip|((with_reducible show wpList ..);first|(refine rd rfl (Bp 62 2 i Mp Mr rfl rfl rfl (Aa HLT)) ?_)|(refine rd rfl (Dc 9 isAgg9 rfl rfl (HKS _ ((Aa SS).get 3 rfl))) ?_)|(refine rd rfl (Dc 9 isAgg9 rfl rfl (HKSz _ ((Aa SS).get 3 rfl))) ?_)|(refine rd rfl (ex_lkV rfl rfl rfl ((Aa SS).get 2 rfl) hokx (lkNo hF)) ?_)|(refine zA 26 (zeroV.cs) (by rfl) rfl SS ?_;clear SS;intro Xw Bw SS;simp only[nn])|(refine zS (zeroV.cs) 6 26 (by rfl) rfl rfl rfl rfl (Ex _) szV SS rfl ?_;clear SS;intro Xz SS;simp only[nn])))
                  refine(ZbN B9 _ ((Aa SS).hold 5 rfl)).mono ?_
                  rintro _ Y ⟨rfl,S1⟩
                  replace SS:=Ab ((Aa SS).set 5 rfl (Jo B9 Gz) (S1.get 0 rfl) S1.fr (fun b hb=> .inl hb))
                  clear S1
                  go_wp2_with (first|go_skip|((with_reducible show wpList ..);first|(refine rd rfl (ex_bF5 rfl) ?_)|(refine rd rfl (ex_neF rfl rfl rfl) ?_)))
                  have HI4:Hid (LI2 w ns (rc) B5 B0 Bm n F p gz ck K1 (i+1) _):=Ab ⟨_,V4.more (by omega) (by omega),Sy.left (L:= [_,_,_,_]) (M:= [_,_,_]) (Aa SS)⟩
                  clear SS
                  go_wp2
                  go_roundg (K1 - (i+1))
                  case measure=>have:=Aa HLT;omega
                  case rel=>exact⟨i+1,by go_num,by have:=Aa HLT;omega,by omega,HI4⟩
              ·as_aux_lemma=>
                go_cut [27,28] from 174 to 306 (fun s27 s28 wq=>CutB w ns B0 F (rc) B5 Bm n p gz ck K1 i h3 x s27 s28 wq)
                case first=>
                 as_aux_lemma=>
                  have HC:=fun X hX hT2=>Zdk h3 q3 p _ ⟨x.n,0⟩ (rc) x X hX hT2 N3 (by omega) (by have:=V3.f;omega) (by have:=V3.e;have:=V3.d;omega) hok2 hgx rfl hr1 hr2 hfx hk0
                  simp only[hb3,Dg,Db] at HC
                  have hS9:Sy w _ [] [Ao B5 rc.cs,hpO h3,Eb vR vD zeroV Bm n F,Do 0 45 2 (.slice (some ⟨gz,0,none⟩) K1 ck) K1 (flatK (Ez p))]:=(Aa SS).drew
                  clear SS
                  refine wp_region_held_drew (P:=prog) (S:=fun X=> ∃(o:Ob) (M:List Ob),Sy w X [] (Ao B5 rc.cs::o::Eb vR vD zeroV Bm n F::Do 0 45 2 (.slice (some ⟨gz,0,none⟩) K1 ck) K1 (flatK (Ez p))::M)) (by kernel_rfl) (⟨_,_,hS9⟩) (fun hS0=> ?_)
                  refine gp 0 (some 267) (.pointer (some ⟨B0,0,none⟩)) rfl rfl (⟨_,_,hS9⟩) ?_
                  refine gp 1 (some 268) (.slice (some ⟨gz,0,none⟩) K1 ck) rfl rfl (⟨_,_,hS9⟩) ?_
                  refine gp 2 (some 269) (.int .i64 (i:Nat)) rfl rfl (⟨_,_,hS9⟩) ?_
                  refine gq 3 (some 270) (.pointer (some ⟨gz,0+i * 2,none⟩)) rfl rfl (fun X hX=>Bp 62 2 i Mp Mr rfl rfl rfl (Aa HLT)) (⟨_,_,hS9⟩) ?_
                  refine gq 4 (some 271) (.agg (KK.cs ⟨x.n,0⟩).toArray) rfl rfl (fun X hX=>Dy (vs:=KK.cs ⟨x.n,0⟩) 45 2 rwK szK rfl rfl (HKR _ (hX.elim fun _ h=>h.elim fun _ hS=>hS.get 3 rfl)) rfl) (⟨_,_,hS9⟩) ?_
                  refine gq 5 (some 272) (.agg (rc).cs.toArray) rfl rfl (fun X hX=>Am (vs:=(rc).cs) 26 5 rwV szV rfl rfl (hX.elim fun _ h=>h.elim fun _ hS=>hS.hold 0 rfl) rfl rfl) (⟨_,_,hS9⟩) ?_
                  refine gr (rs:= [6,10]) (gc 6 (some 273) rfl rfl (HC _ (hS9.hp 1 rfl) ((Aa HT).on hS9.fr.below)) ?_ (Lg (v:= .agg (zeroV.cs).toArray) 10 (some 27) 26 (zeroV.cs) rfl rfl (by kernel_rfl) rfl (fun w=>by kernel_rfl) rfl (Nat.succ_pos _) hS9 (fun _ hZ=>⟨_,_,hZ⟩) ?_ gn))
                  ·rintro e Yz1 ⟨h4,rfl,hR4,T4⟩
                   have hqz1:=Sy.heap hS9 1 rfl T4
                   refine⟨_,rfl,⟨_,_,hqz1⟩, ?_⟩
                   refine gp 7 (some 266) (.tuple #[.agg x.v.cs.toArray, .nilIface]) rfl rfl (⟨_,_,hqz1⟩) ?_
                   refine gp 8 (some 274) (.agg x.v.cs.toArray) rfl rfl (⟨_,_,hqz1⟩) ?_
                   refine gp 9 (some 275) (.nilIface) rfl rfl (⟨_,_,hqz1⟩) ?_
                   refine gr (rs:= [10]) (Lg (v:= .agg (zeroV.cs).toArray) 10 (some 27) 26 (zeroV.cs) rfl rfl (by kernel_rfl) rfl (fun w=>by kernel_rfl) rfl (Nat.succ_pos _) hqz1 (fun _ hZ=>⟨_,_,hZ⟩) ?_ gn)
                   intro Yz2 Bz2 hEz2 hqz2
                   clear hEz2
                   simp only[nn]
                   refine gr (rs:= [11]) (Jd (vs:=x.v.cs) (new:=x.v.cs) 11 4 26 rfl rfl (by kernel_rfl) rfl rfl rfl rfl (Ex _) szV hqz2 rfl (by simp[Bz,VV.cs,KK.cs,DD.cs,OB.cs,hcs,Ar,zeroV]) (by simp[Bz,VV.cs,KK.cs,DD.cs,OB.cs,hcs,Ar,zeroV]) (fun _ hZ=>⟨_,_,hZ⟩) ?_ gn)
                   intro Yz3 hqz3
                   refine gp 12 (some 28) (.nilIface) rfl rfl (⟨_,_,hqz3⟩) ?_
                   refine dn ?_
                   try simp only[nn]
                   have SS:=Ab hqz3
                   clear hqz3 HC
                   go_wp2_with fail
                   go_meet
                   case rel=>exact CutB.mk h4 Bz2 ((V3.rt hR4).more (by omega) (by omega)) rfl rfl SS
                  ·intro Yz4 Bz4 hEz4 hqz4
                   clear hEz4
                   simp only[nn]
                   refine gr (rs:= [6]) (gc 6 (some 273) rfl rfl (HC _ (hqz4.hp 1 rfl) ((Aa HT).on hqz4.fr.below)) ?_ gn)
                   rintro e Yz5 ⟨h4,rfl,hR4,T4⟩
                   have hqz5:=Sy.heap hqz4 1 rfl T4
                   refine⟨_,rfl,⟨_,_,hqz5⟩, ?_⟩
                   refine gp 7 (some 266) (.tuple #[.agg x.v.cs.toArray, .nilIface]) rfl rfl (⟨_,_,hqz5⟩) ?_
                   refine gp 8 (some 274) (.agg x.v.cs.toArray) rfl rfl (⟨_,_,hqz5⟩) ?_
                   refine gp 9 (some 275) (.nilIface) rfl rfl (⟨_,_,hqz5⟩) ?_
                   refine gr (rs:= [11]) (Jd (vs:=x.v.cs) (new:=x.v.cs) 11 4 26 rfl rfl (by kernel_rfl) rfl rfl rfl rfl (Ex _) szV hqz5 rfl (by simp[Bz,VV.cs,KK.cs,DD.cs,OB.cs,hcs,Ar,zeroV]) (by simp[Bz,VV.cs,KK.cs,DD.cs,OB.cs,hcs,Ar,zeroV]) (fun _ hZ=>⟨_,_,hZ⟩) ?_ gn)
                   intro Yz6 hqz6
                   refine gp 12 (some 28) (.nilIface) rfl rfl (⟨_,_,hqz6⟩) ?_
                   refine dn ?_
                   try simp only[nn]
                   have SS:=Ab hqz6
                   clear hqz6 HC
                   go_wp2_with fail
                   go_meet
                   case rel=>exact CutB.mk h4 Bz4 ((V3.rt hR4).more (by omega) (by omega)) rfl rfl SS
                case rest=>
                 as_aux_lemma=>
                  clear SS
                  obtain⟨h4,B,V4,hs27,hs28,SS⟩:=hcut
                  subst hs27
                  subst hs28
                  go_wp2_with (first|go_skip|((with_reducible show wpList ..);first|(refine rd rfl (Bp 62 2 i Mp Mr rfl rfl rfl (Aa HLT)) ?_)|(refine rd rfl (Dc 9 isAgg9 rfl rfl (HKS _ ((Aa SS).get 3 rfl))) ?_)|(refine rd rfl (Dc 9 isAgg9 rfl rfl (HKSz _ ((Aa SS).get 3 rfl))) ?_)|(refine rd rfl (ex_lkV rfl rfl rfl ((Aa SS).get 2 rfl) hokx (lkYes hF)) ?_)|(refine zA 26 (zeroV.cs) (by rfl) rfl SS ?_;clear SS;intro Xw Bw SS;simp only[nn])|(refine zS (x.v.cs) 5 26 (by rfl) rfl rfl rfl rfl (Ex _) szV SS rfl ?_;clear SS;intro Xz SS;simp only[nn])|(refine zL (x.v.cs) 26 5 4 rwV szV (by rfl) rfl rfl SS rfl rfl rfl ?_;simp only[nn])|(refine zL (x.v.cs) 26 5 5 rwV szV (by rfl) rfl rfl SS rfl rfl rfl ?_;simp only[nn])))
                  have HE:=fun X=>eq_any x.v x.v X
                  simp only[Db,eqB_refl] at HE
                  refine(HE _).mono ?_
                  clear HE
                  rintro _ Y ⟨rfl,hb⟩
                  replace SS:=Ab ((Aa SS).on hb)
                  clear hb
                  go_wp2_with fail
                  have HI4:Hid (LI2 w ns (rc) B5 B0 Bm n F p gz ck K1 (i+1) _):=Ab ⟨_,V4.more (by omega) (by omega),Sy.left (L:= [_,_,_,_]) (M:= [_,_]) (Aa SS)⟩
                  clear SS
                  go_wp2
                  go_roundg (K1 - (i+1))
                  case measure=>have:=Aa HLT;omega
                  case rel=>exact⟨i+1,by go_num,by have:=Aa HLT;omega,by omega,HI4⟩
         ·as_aux_lemma=>
           have hin2:i=ns.length:=by have:=Aa HK1;omega
           have HKR: ∀X:World,X.ownsRow 0 45 2 (.slice (some ⟨gz,0,none⟩) K1 ck) K1 (flatK (Ez p))->X.rangeAt gz (0+i * 2) Gg.cs:=fun X hO=>by
            obtain⟨g2,c2,e2,e3⟩:=Ox hO (Aa HKL) (Rg p)
            cases e2
            rw[V2.len,←hin2] at e3
            exact e3
           have HKS: ∀X:World,X.ownsRow 0 45 2 (.slice (some ⟨gz,0,none⟩) K1 ck) K1 (flatK (Ez p))->X.cell? ⟨gz,0+i * 2,none⟩=some (.string Gg.s):=fun X hO=>HKR X hO 0 _ rfl
           have HKY: ∀X:World,X.ownsRow 0 45 2 (.slice (some ⟨gz,0,none⟩) K1 ck) K1 (flatK (Ez p))->X.cell? ⟨gz,0+i * 2+1,none⟩=some (.int .i64 12):=fun X hO=>HKR X hO 1 _ rfl
           have HKSz: ∀X:World,X.ownsRow 0 45 2 (.slice (some ⟨gz,0,none⟩) K1 ck) K1 (flatK (Ez p))->X.cell? ⟨gz,i * 2,none⟩=some (.string Gg.s):=fun X hO=>by
            have h9:=HKS X hO
            rwa [Nat.zero_add] at h9
           have HKYz: ∀X:World,X.ownsRow 0 45 2 (.slice (some ⟨gz,0,none⟩) K1 ck) K1 (flatK (Ez p))->X.cell? ⟨gz,i * 2+1,none⟩=some (.int .i64 12):=fun X hO=>by
            have h9:=HKY X hO
            rwa [Nat.zero_add] at h9
           have dl2:decide ((i:Int)<(ns.length:Int))=false:=decide_eq_false (by omega)
           clear hin2
           go_wp2_with (first|go_skip|((with_reducible show wpList ..);first|(refine rd rfl (Bo 62 45 underlying62 rfl rfl) ?_)|(refine rd rfl (Bp 62 2 i Mp Mr rfl rfl rfl (Aa HLT)) ?_)|(refine rd rfl (Dy (vs:=Gg.cs) 45 2 rwK szK rfl rfl (HKR _ ((Aa SS).get 3 rfl)) rfl) ?_)))
           have HC:=Zdi h2 q2 p _ Gg _ ((Aa SS).hp 1 rfl) ((Aa HT).on (Aa SS).fr.below) N2 (by omega) (by have:=V2.f;omega) (by have:=V2.e;have:=V2.d;omega) ZcQ Za0 (.inr rfl)
           rw[hb2,Dg] at HC
           refine HC.mono ?_
           clear HC
           rintro _ Y ⟨h3,rfl,hR3,T3⟩
           replace SS:=Ab ((Aa SS).heap 1 rfl T3)
           clear T3
           have V3:=V2.rt hR3
           have hb3:=V3.b
           obtain⟨q3,N3⟩:=V3.ex
           clear hR3
           go_wp2_with (first|go_skip|((with_reducible show wpList ..);first|(refine rd rfl (Bp 62 2 i Mp Mr rfl rfl rfl (Aa HLT)) ?_)|(refine rd rfl (Dc 9 isAgg9 rfl rfl (HKS _ ((Aa SS).get 3 rfl))) ?_)|(refine rd rfl (Dc 9 isAgg9 rfl rfl (HKSz _ ((Aa SS).get 3 rfl))) ?_)))
           refine(Zda A c ns Gg.s _ ((Aa HN).fr (Aa SS).fr) (by omega)).mono ?_
           rintro _ Y ⟨hH,hb⟩
           replace SS:=Ab ((Aa SS).on hb)
           clear hb
           rcases hH with ⟨-,i3,rfl⟩|⟨-,rfl⟩
           ·as_aux_lemma=>
             by_cases hi0:i=0
             ·have dg:decide ((0:Int)<(i:Int))=false:=decide_eq_false (by omega)
              clear hi0
              go_wp2_with (first|go_skip|((with_reducible show wpList ..);first|(refine rd rfl (Bp 62 2 i Mp Mr rfl rfl rfl (Aa HLT)) ?_)|(refine rd rfl (Dc 3 isAgg3 rfl rfl (HKY _ ((Aa SS).get 3 rfl))) ?_)|(refine rd rfl (Dc 3 isAgg3 rfl rfl (HKYz _ ((Aa SS).get 3 rfl))) ?_)|(refine rd rfl (Bo 22 9 underlying22 rfl rfl) ?_)|(refine rd rfl (Rr rfl rfl rfl dg) ?_)))
              have HI4:Hid (LI2 w ns (rc) B5 B0 Bm n F p gz ck K1 (i+1) _):=Ab ⟨_,V3.more (by omega) (by omega),Sy.left (L:= [_,_,_,_]) (M:= []) (Aa SS)⟩
              clear SS
              go_wp2
              go_roundg (K1 - (i+1))
              case measure=>have:=Aa HLT;omega
              case rel=>exact⟨i+1,by go_num,by have:=Aa HLT;omega,by omega,HI4⟩
             ·have dg:decide ((0:Int)<(i:Int))=true:=decide_eq_true (by omega)
              go_wp2_with (first|go_skip|((with_reducible show wpList ..);first|(refine rd rfl (Bp 62 2 i Mp Mr rfl rfl rfl (Aa HLT)) ?_)|(refine rd rfl (Dc 3 isAgg3 rfl rfl (HKY _ ((Aa SS).get 3 rfl))) ?_)|(refine rd rfl (Dc 3 isAgg3 rfl rfl (HKYz _ ((Aa SS).get 3 rfl))) ?_)|(refine rd rfl (Bo 22 9 underlying22 rfl rfl) ?_)|(refine rd rfl (Rr rfl rfl rfl dg) ?_)))
              have HI4:Hid (LI2 w ns (rc) B5 B0 Bm n F p gz ck K1 (i+1) _):=Ab ⟨_,V3.more (by omega) (by omega),Sy.left (L:= [_,_,_,_]) (M:= []) (Aa SS)⟩
              clear SS
              go_wp2
              go_roundg (K1 - (i+1))
              case measure=>have:=Aa HLT;omega
              case rel=>exact⟨i+1,by go_num,by have:=Aa HLT;omega,by omega,HI4⟩
           ·as_aux_lemma=>
             by_cases hi0:i=0
             ·have dg:decide ((0:Int)<(i:Int))=false:=decide_eq_false (by omega)
              clear hi0
              go_wp2_with (first|go_skip|((with_reducible show wpList ..);first|(refine rd rfl (Bp 62 2 i Mp Mr rfl rfl rfl (Aa HLT)) ?_)|(refine rd rfl (Dc 3 isAgg3 rfl rfl (HKY _ ((Aa SS).get 3 rfl))) ?_)|(refine rd rfl (Dc 3 isAgg3 rfl rfl (HKYz _ ((Aa SS).get 3 rfl))) ?_)|(refine rd rfl (Bo 22 9 underlying22 rfl rfl) ?_)|(refine rd rfl (Rr rfl rfl rfl dg) ?_)))
              have HI4:Hid (LI2 w ns (rc) B5 B0 Bm n F p gz ck K1 (i+1) _):=Ab ⟨_,V3.more (by omega) (by omega),Sy.left (L:= [_,_,_,_]) (M:= []) (Aa SS)⟩
              clear SS
              go_wp2
              go_roundg (K1 - (i+1))
              case measure=>have:=Aa HLT;omega
              case rel=>exact⟨i+1,by go_num,by have:=Aa HLT;omega,by omega,HI4⟩
             ·have dg:decide ((0:Int)<(i:Int))=true:=decide_eq_true (by omega)
              go_wp2_with (first|go_skip|((with_reducible show wpList ..);first|(refine rd rfl (Bp 62 2 i Mp Mr rfl rfl rfl (Aa HLT)) ?_)|(refine rd rfl (Dc 3 isAgg3 rfl rfl (HKY _ ((Aa SS).get 3 rfl))) ?_)|(refine rd rfl (Dc 3 isAgg3 rfl rfl (HKYz _ ((Aa SS).get 3 rfl))) ?_)|(refine rd rfl (Bo 22 9 underlying22 rfl rfl) ?_)|(refine rd rfl (Rr rfl rfl rfl dg) ?_)))
              have HI4:Hid (LI2 w ns (rc) B5 B0 Bm n F p gz ck K1 (i+1) _):=Ab ⟨_,V3.more (by omega) (by omega),Sy.left (L:= [_,_,_,_]) (M:= []) (Aa SS)⟩
              clear SS
              go_wp2
              go_roundg (K1 - (i+1))
              case measure=>have:=Aa HLT;omega
              case rel=>exact⟨i+1,by go_num,by have:=Aa HLT;omega,by omega,HI4⟩
       ·obtain rfl:i=K1:=by omega
        go_wp2_with (first|go_skip|((with_reducible show wpList ..);first|(refine rd rfl (Bo 62 45 underlying62 rfl rfl) ?_)))
        go_ret
        exact⟨rfl,(Aa HI).elim (fun _ h=>h.2.fr.below)⟩
