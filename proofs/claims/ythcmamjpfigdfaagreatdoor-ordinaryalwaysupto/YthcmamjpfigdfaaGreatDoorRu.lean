import Derived.Test.YthcmamjpfigdfaaGreatDoorRt
set_option linter.all false
namespace Go.Proofs.YthcmamjpfigdfaaGreatDoor
set_option maxRecDepth 100000
set_option maxHeartbeats 0
section
open Go Go.Proofs Go.Maps Go.RowKit FM Tryz
attribute [local go_sem] Am Al Ar Ah Ao Ai Au Dg Df Bh Ak Az
def AskA (h:HP) (M o T:Int) (k:KK) (v r:VV) (d:DD) (A:Option Addr) (c:Nat) (l:List VV) (w:World) (Ba Bb Bc:Nat) (s7:Value) (wq:World):Prop:= ∃g cg Bf:Nat,s7= .slice (some ⟨g,0,none⟩) (l.length+1) cg/\l.length+1<=cg/\Hid (Sy w wq h.blocks [hpO h,Aq Ba (Za1 M o T k v r d (.slice A l.length c)),Aq Bb (Dm Bs),Aq Bc (Dm Bs),Du w.heap.size 40 5 (.slice (some ⟨g,0,none⟩) (l.length+1) cg) (l.length+1) (l.flatMap VV.cs++ [v7].flatMap VV.cs),Aq Bf ([v7].flatMap VV.cs)])
theorem AskA.mk {h:HP} {M o T:Int} {k:KK} {v r:VV} {d:DD} {A:Option Addr} {c:Nat} {l:List VV} {w:World} {Ba Bb Bc:Nat} {s7:Value} {wq:World} (g cg Bf:Nat) (h1:s7= .slice (some ⟨g,0,none⟩) (l.length+1) cg) (h2:l.length+1<=cg) (S:Hid (Sy w wq h.blocks [hpO h,Aq Ba (Za1 M o T k v r d (.slice A l.length c)),Aq Bb (Dm Bs),Aq Bc (Dm Bs),Du w.heap.size 40 5 (.slice (some ⟨g,0,none⟩) (l.length+1) cg) (l.length+1) (l.flatMap VV.cs++ [v7].flatMap VV.cs),Aq Bf ([v7].flatMap VV.cs)])):AskA h M o T k v r d A c l w Ba Bb Bc s7 wq:=⟨g,cg,Bf,h1,h2,S⟩
def AskB (h:HP) (M o T:Int) (k:KK) (v r:VV) (d:DD) (A:Option Addr) (c:Nat) (l:List VV) (w:World) (Ba Bb Bc:Nat) (N g cg Bf:Nat) (s6:Value) (wq:World):Prop:= ∃(h1:HP) (n:AN),AskP h N h1 s6/\(M=9->SetQ h r k v h1 n.y)/\h1.b=h.b/\n.f=0/\Hid (Sy w wq h.blocks [hpO h1,Aq Ba (Za1 M o T k v r d (.slice A l.length c)),Aq Bb (Dm Bs),Aq Bc (Dm n),Du w.heap.size 40 5 (.slice (some ⟨g,0,none⟩) (l.length+1) cg) (l.length+1) (l.flatMap VV.cs++ [v7].flatMap VV.cs),Aq Bf ([v7].flatMap VV.cs)])
theorem AskB.mk {h:HP} {M o T:Int} {k:KK} {v r:VV} {d:DD} {A:Option Addr} {c:Nat} {l:List VV} {w:World} {Ba Bb Bc N g cg Bf:Nat} {s6:Value} {wq:World} (h1:HP) (n:AN) (a1:AskP h N h1 s6) (a2:M=9->SetQ h r k v h1 n.y) (a3:h1.b=h.b) (a4:n.f=0) (S:Hid (Sy w wq h.blocks [hpO h1,Aq Ba (Za1 M o T k v r d (.slice A l.length c)),Aq Bb (Dm Bs),Aq Bc (Dm n),Du w.heap.size 40 5 (.slice (some ⟨g,0,none⟩) (l.length+1) cg) (l.length+1) (l.flatMap VV.cs++ [v7].flatMap VV.cs),Aq Bf ([v7].flatMap VV.cs)])):AskB h M o T k v r d A c l w Ba Bb Bc N g cg Bf s6 wq:=⟨h1,n,a1,a2,a3,a4,S⟩
theorem ask_h (h:HP) (M o T:Int) (k:KK) (v r:VV) (d:DD) (A:Option Addr) (c:Nat) (l:List VV) (N:Nat) (w:World) (h1:1<=M) (h11:M<=11) (H:h.Is w) (G:h.Gd N) (hN:N<=90000) (hT:Tabs w) (hk:OkK k) (hvx:v.x<2^64) (hFd:FD d) (hz:l.length<=1000000) (hlx: ∀v∈l,v.x<2^64) (hA:A=none->l.length=0/\c=0) (hR: ∀X,Fr w X h.blocks->Nk X A l):Calls prog 31 #[.pointer (some ⟨h.b,0,none⟩), .agg (Za1 M o T k v r d (.slice A l.length c)).toArray] w fun e w'=>AskR h N M k v r w e w':=by
 have SS:=Ab H.start
 have HR:=Ab hR
 clear hR
 go_enter func31,ntmps31
 go_upto_region 3 with (first|go_skip|((with_reducible show wpList ..);first|(refine zB 46 (Za1 M o T k v r d (.slice A l.length c)) (by rfl) rfl rfl rfl SS ?_;clear SS;intro Xa Ba SS;simp only[nn])|(refine zA 60 (Dm Bs) (by rfl) rfl (show Hid (Sy _ _ _ [_,_]) from SS) ?_;clear SS;intro Xb Bb SS;simp only[nn])|(refine zA 60 (Dm Bs) (by rfl) rfl (show Hid (Sy _ _ _ [_,_,_]) from SS) ?_;clear SS;intro Xc Bc SS;simp only[nn])))
 go_cut [7] from 8 to 209 (AskA h M o T k v r d A c l w Ba Bb Bc)
 case first=>
  go_wp2_with (first|go_skip|((with_reducible show wpList ..);first|((refine emS (e:=40) (size:=5) w.heap.size (by rfl) rfl (fun w=>by kernel_rfl) (Aa SS) (Aa SS).fr.size ?_);intro Xd Bd Ld;replace SS:=Ab Ld;clear Ld;simp only[nn])|(refine rd rfl (Ad 44 isAgg44 rfl rfl ((Aa SS).hold 1 rfl) rfl) ?_)|((refine apA0 (news:=l.flatMap VV.cs) 4 (by rfl) rfl rfl rfl underlying44 Zfp rfl (by decide) (Aa SS) rfl hA (Nw VV.cs 5 (fun _=>rfl) l) (ReadsG.src (f:=VV.cs) (fun _=>rfl) (by decide) (Aa HR _ (Aa SS).fr)) (Zbu l) (by omega) (by decide) (Aa SS).fr.size ?_);intro Ae ce Xe Le;replace SS:=Ab Le;clear Le;simp only[nn])|(refine rd rfl (ex_bv7 rfl) ?_)|((refine bsV1 (v:=v7) (by rfl) rfl rfl (Aa SS) ?_);intro Xf Bf Lf;replace SS:=Ab Lf;clear Lf;simp only[nn])|((refine apS 4 5 rfl rfl rfl rfl underlying44 Zfp rfl (by decide) (Aa SS) rfl rfl rfl (Zbu [v7]) (by omega) (by decide) (Aa SS).fr.size ?_);intro Ag cg Xg Lg;replace SS:=Ab Lg;clear Lg;simp only[nn])))
  obtain⟨g,rfl,hcg⟩:=own_rvA (show World.ownsRow _ _ _ 5 (.slice Ag (l.length+1) cg) (l.length+1) _ from (Aa SS).get 4 rfl)
  go_meet
  case rel=>exact AskA.mk g cg Bf rfl hcg SS
 case rest=>
  clear SS
  obtain⟨g,cg,Bf,hs7,hcg,SS⟩:=hcut
  subst hs7
  go_step
  go_step
  go_cut [6] from 8 to 209 (AskB h M o T k v r d A c l w Ba Bb Bc N g cg Bf)
  case first=>
   have hMM:M=1∨M=2∨M=3∨M=4∨M=5∨M=6∨M=7∨M=8∨M=9∨M=10∨M=11:=by omega
   rcases hMM with rfl|rfl|rfl|rfl|rfl|rfl|rfl|rfl|rfl|rfl|rfl
   ·as_aux_lemma=>
    go_wp2_with (first|go_skip|((with_reducible show wpList ..);first|(refine rd rfl (Ad 3 isAgg3 rfl rfl ((Aa SS).hold 1 rfl) rfl) ?_)))
    have HC:=Vz h o  N _ ((Aa SS).hp 0 rfl) G hN (hT.fr (Aa SS).fr H.low) 
    simp only[Bu] at HC
    refine HC.mono ?_
    rintro _ Y ⟨h1,V,er,rfl,hP,T⟩
    replace SS:=Ab ((Aa SS).heap 0 rfl T)
    have hb1:=T.hb
    clear T HC
    go_wp2_with (first|go_skip|((with_reducible show wpList ..);first|((refine stS (vs:=V.cs) 3 40 (by rfl) rfl rfl rfl rfl (Ea _) (szV) (Aa SS) rfl (by simp[Bo,VV.cs,KK.cs,DD.cs,zeroD,Av,Dm,Bs,El]) ?_);intro Xh Lh hfh hsh;replace SS:=Ab Lh;clear Lh hfh hsh;simp only[nn])))
    go_meet
    case rel=>exact AskB.mk h1 {Bs with v:=V} hP (fun h9=>absurd h9 (by decide)) hb1 rfl SS
   ·as_aux_lemma=>
    go_wp2_with (first|go_skip|((with_reducible show wpList ..);first|(refine rd rfl (Ad 3 isAgg3 rfl rfl ((Aa SS).hold 1 rfl) rfl) ?_)|(refine rd rfl (Af (vs:=v.cs) 40 5 rwV szV rfl rfl ((Aa SS).hold 1 rfl) rfl rfl) ?_)))
    have HC:=Vy h o v N _ ((Aa SS).hp 0 rfl) G hN (hT.fr (Aa SS).fr H.low) hvx
    simp only[Bu] at HC
    refine HC.mono ?_
    rintro _ Y ⟨h1,y,er,rfl,hP,T⟩
    replace SS:=Ab ((Aa SS).heap 0 rfl T)
    have hb1:=T.hb
    clear T HC
    go_wp2_with (first|go_skip|((with_reducible show wpList ..);first|((refine stS (vs:= [.bool y]) 3 4 (by rfl) rfl rfl rfl rfl (by simp[Value.oneCell']) (by kernel_rfl) (Aa SS) rfl (by simp[Bo,VV.cs,KK.cs,DD.cs,zeroD,Av,Dm,Bs,El]) ?_);intro Xh Lh hfh hsh;replace SS:=Ab Lh;clear Lh hfh hsh;simp only[nn])))
    go_meet
    case rel=>exact AskB.mk h1 {Bs with y:=y} hP (fun h9=>absurd h9 (by decide)) hb1 rfl SS
   ·as_aux_lemma=>
    go_wp2_with (first|go_skip|((with_reducible show wpList ..);first|(refine rd rfl (Ad 3 isAgg3 rfl rfl ((Aa SS).hold 1 rfl) rfl) ?_)))
    have HC:=Zs h o  N _ ((Aa SS).hp 0 rfl) G hN (hT.fr (Aa SS).fr H.low) 
    refine HC.mono ?_
    rintro _ Y ⟨h1,y,er,rfl,hP,T⟩
    replace SS:=Ab ((Aa SS).heap 0 rfl T)
    have hb1:=T.hb
    clear T HC
    go_wp2_with (first|go_skip|((with_reducible show wpList ..);first|((refine stS (vs:= [.bool y]) 3 4 (by rfl) rfl rfl rfl rfl (by simp[Value.oneCell']) (by kernel_rfl) (Aa SS) rfl (by simp[Bo,VV.cs,KK.cs,DD.cs,zeroD,Av,Dm,Bs,El]) ?_);intro Xh Lh hfh hsh;replace SS:=Ab Lh;clear Lh hfh hsh;simp only[nn])))
    go_meet
    case rel=>exact AskB.mk h1 {Bs with y:=y} hP (fun h9=>absurd h9 (by decide)) hb1 rfl SS
   ·as_aux_lemma=>
    go_wp2_with (first|go_skip|((with_reducible show wpList ..);first|(refine rd rfl (Ad 3 isAgg3 rfl rfl ((Aa SS).hold 1 rfl) rfl) ?_)))
    have HC:=Qc h o  N _ ((Aa SS).hp 0 rfl) G hN (hT.fr (Aa SS).fr H.low) 
    refine HC.mono ?_
    rintro _ Y ⟨h1,y,er,rfl,hP,T⟩
    replace SS:=Ab ((Aa SS).heap 0 rfl T)
    have hb1:=T.hb
    clear T HC
    go_wp2_with (first|go_skip|((with_reducible show wpList ..);first|((refine stS (vs:= [.bool y]) 3 4 (by rfl) rfl rfl rfl rfl (by simp[Value.oneCell']) (by kernel_rfl) (Aa SS) rfl (by simp[Bo,VV.cs,KK.cs,DD.cs,zeroD,Av,Dm,Bs,El]) ?_);intro Xh Lh hfh hsh;replace SS:=Ab Lh;clear Lh hfh hsh;simp only[nn])))
    go_meet
    case rel=>exact AskB.mk h1 {Bs with y:=y} hP (fun h9=>absurd h9 (by decide)) hb1 rfl SS
   ·as_aux_lemma=>
    go_wp2_with (first|go_skip|((with_reducible show wpList ..);first|(refine rd rfl (Ad 3 isAgg3 rfl rfl ((Aa SS).hold 1 rfl) rfl) ?_)|(refine rd rfl (Af (vs:=k.cs) 37 2 rwK szK rfl rfl ((Aa SS).hold 1 rfl) rfl rfl) ?_)))
    have HC:=Xk h o k N _ ((Aa SS).hp 0 rfl) G hN (hT.fr (Aa SS).fr H.low) hk
    simp only[Dj,Mi] at HC
    refine HC.mono ?_
    rintro _ Y ⟨h1,V,y,er,rfl,hP,T⟩
    replace SS:=Ab ((Aa SS).heap 0 rfl T)
    have hb1:=T.hb
    clear T HC
    go_wp2_with (first|go_skip|((with_reducible show wpList ..);first|((refine stS (vs:=V.cs) 3 43 (by rfl) rfl rfl rfl rfl (Dz _) (szD) (Aa SS) rfl (by simp[Bo,VV.cs,KK.cs,DD.cs,zeroD,Av,Dm,Bs,El]) ?_);intro Xh Lh hfh hsh;replace SS:=Ab Lh;clear Lh hfh hsh;simp only[nn])|((refine stS (vs:= [.bool y]) 3 4 (by rfl) rfl rfl rfl rfl (by simp[Value.oneCell']) (by kernel_rfl) (Aa SS) rfl (by simp[Bo,VV.cs,KK.cs,DD.cs,zeroD,Av,Dm,Bs,El]) ?_);intro Xi Li hfi hsi;replace SS:=Ab Li;clear Li hfi hsi;simp only[nn])))
    go_meet
    case rel=>exact AskB.mk h1 {Bs with d:=V,y:=y} hP (fun h9=>absurd h9 (by decide)) hb1 rfl SS
   ·as_aux_lemma=>
    go_wp2_with (first|go_skip|((with_reducible show wpList ..);first|(refine rd rfl (Ad 3 isAgg3 rfl rfl ((Aa SS).hold 1 rfl) rfl) ?_)|(refine rd rfl (Af (vs:=k.cs) 37 2 rwK szK rfl rfl ((Aa SS).hold 1 rfl) rfl rfl) ?_)|(refine rd rfl (Af (vs:=d.cs) 43 18 rwD szD rfl rfl ((Aa SS).hold 1 rfl) rfl rfl) ?_)))
    have HC:=Qd h o k d N _ ((Aa SS).hp 0 rfl) G hN (hT.fr (Aa SS).fr H.low) hk hFd
    simp only[Dj,Mi] at HC
    refine HC.mono ?_
    rintro _ Y ⟨h1,y,er,rfl,hP,T⟩
    replace SS:=Ab ((Aa SS).heap 0 rfl T)
    have hb1:=T.hb
    clear T HC
    go_wp2_with (first|go_skip|((with_reducible show wpList ..);first|((refine stS (vs:= [.bool y]) 3 4 (by rfl) rfl rfl rfl rfl (by simp[Value.oneCell']) (by kernel_rfl) (Aa SS) rfl (by simp[Bo,VV.cs,KK.cs,DD.cs,zeroD,Av,Dm,Bs,El]) ?_);intro Xh Lh hfh hsh;replace SS:=Ab Lh;clear Lh hfh hsh;simp only[nn])))
    go_meet
    case rel=>exact AskB.mk h1 {Bs with y:=y} hP (fun h9=>absurd h9 (by decide)) hb1 rfl SS
   ·as_aux_lemma=>
    go_wp2_with (first|go_skip|((with_reducible show wpList ..);first|(refine rd rfl (Ad 3 isAgg3 rfl rfl ((Aa SS).hold 1 rfl) rfl) ?_)|(refine rd rfl (Af (vs:=k.cs) 37 2 rwK szK rfl rfl ((Aa SS).hold 1 rfl) rfl rfl) ?_)))
    have HC:=Za0 h o k N _ ((Aa SS).hp 0 rfl) G hN (hT.fr (Aa SS).fr H.low) hk
    simp only[Dj] at HC
    refine HC.mono ?_
    rintro _ Y ⟨h1,y,er,rfl,hP,T⟩
    replace SS:=Ab ((Aa SS).heap 0 rfl T)
    have hb1:=T.hb
    clear T HC
    go_wp2_with (first|go_skip|((with_reducible show wpList ..);first|((refine stS (vs:= [.bool y]) 3 4 (by rfl) rfl rfl rfl rfl (by simp[Value.oneCell']) (by kernel_rfl) (Aa SS) rfl (by simp[Bo,VV.cs,KK.cs,DD.cs,zeroD,Av,Dm,Bs,El]) ?_);intro Xh Lh hfh hsh;replace SS:=Ab Lh;clear Lh hfh hsh;simp only[nn])))
    go_meet
    case rel=>exact AskB.mk h1 {Bs with y:=y} hP (fun h9=>absurd h9 (by decide)) hb1 rfl SS
   ·as_aux_lemma=>
    go_wp2_with (first|go_skip|((with_reducible show wpList ..);first|(refine rd rfl (Ad 3 isAgg3 rfl rfl ((Aa SS).hold 1 rfl) rfl) ?_)|(refine rd rfl (Af (vs:=k.cs) 37 2 rwK szK rfl rfl ((Aa SS).hold 1 rfl) rfl rfl) ?_)|(refine rd rfl (Af (vs:=r.cs) 40 5 rwV szV rfl rfl ((Aa SS).hold 1 rfl) rfl rfl) ?_)))
    have HC:=askGet h o k r N _ ((Aa SS).hp 0 rfl) G hN (hT.fr (Aa SS).fr H.low) hk
    simp only[Dj,Bu] at HC
    refine HC.mono ?_
    rintro _ Y ⟨h1,V,er,rfl,hP,T⟩
    replace SS:=Ab ((Aa SS).heap 0 rfl T)
    have hb1:=T.hb
    clear T HC
    go_wp2_with (first|go_skip|((with_reducible show wpList ..);first|((refine stS (vs:=V.cs) 3 40 (by rfl) rfl rfl rfl rfl (Ea _) (szV) (Aa SS) rfl (by simp[Bo,VV.cs,KK.cs,DD.cs,zeroD,Av,Dm,Bs,El]) ?_);intro Xh Lh hfh hsh;replace SS:=Ab Lh;clear Lh hfh hsh;simp only[nn])))
    go_meet
    case rel=>exact AskB.mk h1 {Bs with v:=V} hP (fun h9=>absurd h9 (by decide)) hb1 rfl SS
   ·as_aux_lemma=>
    go_wp2_with (first|go_skip|((with_reducible show wpList ..);first|(refine rd rfl (Ad 3 isAgg3 rfl rfl ((Aa SS).hold 1 rfl) rfl) ?_)|(refine rd rfl (Af (vs:=k.cs) 37 2 rwK szK rfl rfl ((Aa SS).hold 1 rfl) rfl rfl) ?_)|(refine rd rfl (Af (vs:=v.cs) 40 5 rwV szV rfl rfl ((Aa SS).hold 1 rfl) rfl rfl) ?_)|(refine rd rfl (Af (vs:=r.cs) 40 5 rwV szV rfl rfl ((Aa SS).hold 1 rfl) rfl rfl) ?_)))
    have HC:=askSet h o k v r N _ ((Aa SS).hp 0 rfl) G hN (hT.fr (Aa SS).fr H.low) hk hvx
    simp only[Dj,Bu] at HC
    refine HC.mono ?_
    rintro _ Y ⟨h1,y,er,rfl,hP,hQ,T⟩
    replace SS:=Ab ((Aa SS).heap 0 rfl T)
    have hb1:=T.hb
    clear T HC
    go_wp2_with (first|go_skip|((with_reducible show wpList ..);first|((refine stS (vs:= [.bool y]) 3 4 (by rfl) rfl rfl rfl rfl (by simp[Value.oneCell']) (by kernel_rfl) (Aa SS) rfl (by simp[Bo,VV.cs,KK.cs,DD.cs,zeroD,Av,Dm,Bs,El]) ?_);intro Xh Lh hfh hsh;replace SS:=Ab Lh;clear Lh hfh hsh;simp only[nn])))
    go_meet
    case rel=>exact AskB.mk h1 {Bs with y:=y} hP (fun _=>hQ) hb1 rfl SS
   ·as_aux_lemma=>
    go_wp2_with (first|go_skip|((with_reducible show wpList ..);first|(refine rd rfl (Ad 3 isAgg3 rfl rfl ((Aa SS).hold 1 rfl) rfl) ?_)|(refine rd rfl (Af (vs:=k.cs) 37 2 rwK szK rfl rfl ((Aa SS).hold 1 rfl) rfl rfl) ?_)))
    have HC:=ZgF h o k N _ ((Aa SS).hp 0 rfl) G hN (hT.fr (Aa SS).fr H.low) hk
    simp only[Dj] at HC
    refine HC.mono ?_
    rintro _ Y ⟨h1,y,er,rfl,hP,T⟩
    replace SS:=Ab ((Aa SS).heap 0 rfl T)
    have hb1:=T.hb
    clear T HC
    go_wp2_with (first|go_skip|((with_reducible show wpList ..);first|((refine stS (vs:= [.bool y]) 3 4 (by rfl) rfl rfl rfl rfl (by simp[Value.oneCell']) (by kernel_rfl) (Aa SS) rfl (by simp[Bo,VV.cs,KK.cs,DD.cs,zeroD,Av,Dm,Bs,El]) ?_);intro Xh Lh hfh hsh;replace SS:=Ab Lh;clear Lh hfh hsh;simp only[nn])))
    go_meet
    case rel=>exact AskB.mk h1 {Bs with y:=y} hP (fun h9=>absurd h9 (by decide)) hb1 rfl SS
   ·as_aux_lemma=>
    go_wp2_with (first|go_skip|((with_reducible show wpList ..);first|(refine rd rfl (Ad 3 isAgg3 rfl rfl ((Aa SS).hold 1 rfl) rfl) ?_)))
    have HC:=askKeys h o  N _ ((Aa SS).hp 0 rfl) G hN (hT.fr (Aa SS).fr H.low) 
    refine HC.mono ?_
    rintro _ Y ⟨h1,V,er,rfl,hP,hQ,T⟩
    obtain⟨kA,kn,kc,rfl⟩:=hQ
    replace SS:=Ab ((Aa SS).heap 0 rfl T)
    have hb1:=T.hb
    clear T HC
    go_wp2_with (first|go_skip|((with_reducible show wpList ..);first|((refine stS (vs:= [.slice kA kn kc]) 3 48 (by rfl) rfl rfl rfl rfl (by simp[Value.oneCell']) (by kernel_rfl) (Aa SS) rfl (by simp[Bo,VV.cs,KK.cs,DD.cs,zeroD,Av,Dm,Bs,El]) ?_);intro Xh Lh hfh hsh;replace SS:=Ab Lh;clear Lh hfh hsh;simp only[nn])))
    go_meet
    case rel=>exact AskB.mk h1 {Bs with kA:=kA,kn:=kn,kc:=kc} hP (fun h9=>absurd h9 (by decide)) hb1 rfl SS
  case rest=>
   as_aux_lemma=>
   clear SS
   obtain⟨h1,n,hP,hQ,hb1,hn0,SS⟩:=hcut
   obtain⟨er,her⟩: ∃er,er=u6:=⟨_,rfl⟩
   rw[←her] at hP
   rw[←her]
   clear her
   go_wp2_with fail
   refine(Zz er _ hP.er).mono ?_
   rintro _ Yf ⟨rfl,hYf⟩
   replace SS:=Ab ((Aa SS).on hYf)
   clear hYf
   go_wp2_with (first|go_skip|((with_reducible show wpList ..);first|((refine stS (vs:=El (Gq er)) 3 58 (by rfl) rfl rfl rfl rfl (Nx _) szF (Aa SS) rfl (by simp[Bo,VV.cs,KK.cs,DD.cs,zeroD,Av,Dm,Bs,El]) ?_);intro Xj Lj hfj hsj;replace SS:=Ab Lj;clear Lj hfj hsj;simp only[nn])))
   have hS32:Sy w _ h.blocks [hpO h1,Aq Ba (Za1 M o T k v r d (.slice A l.length c)),Aq Bb (Dm Bs),Aq Bc (Dm {n with f:=Gq er}),Du w.heap.size 40 5 (.slice (some ⟨g,0,none⟩) (l.length+1) cg) (l.length+1) (l.flatMap VV.cs++ [v7].flatMap VV.cs),Aq Bf ([v7].flatMap VV.cs)]:=(Aa SS).drew
   clear SS
   refine wp_region_held_drew (P:=prog) (S:=fun X=>Sy w X h.blocks _) (by kernel_rfl) (hS32) (fun hS0=> ?_)
   refine gp 0 (some 188) (.slice (some ⟨g,0,none⟩) (l.length+1) cg) rfl rfl (hS32) ?_
   refine gp 1 (some 189) (.pointer (some ⟨Ba,33,none⟩)) rfl rfl (hS32) ?_
   refine gq 2 (some 190) (.slice A l.length c) rfl rfl (fun X hX=>Ad 44 isAgg44 rfl rfl (hX.hold 1 rfl) rfl) (hS32) ?_
   refine gq 3 (some 191) (.int .i64 (l.length:Nat)) rfl rfl (fun X hX=>Bm 44 40 underlying44 rfl rfl) (hS32) ?_
   refine gq 4 (some 192) (.slice (some ⟨g,0,none⟩) l.length cg) rfl rfl (fun X hX=>ex_slV rfl rfl rfl (by omega)) (hS32) ?_
   refine gp 5 (some 193) (.pointer (some ⟨Ba,33,none⟩)) rfl rfl (hS32) ?_
   refine gq 6 (some 194) (.slice A l.length c) rfl rfl (fun X hX=>Ad 44 isAgg44 rfl rfl (hX.hold 1 rfl) rfl) (hS32) ?_
   refine gr (rs:= [7]) (gcB 7 (some 195) rfl rfl hS32 (Zet l (some ⟨g,0,none⟩) A cg c _ (by omega) hlx (ReadsG.left (f:=VV.cs) (own_rv (hS32.get 4 rfl))) (Aa HR _ hS32.fr)) id ?_ gn)
   intro Y1 hq1
   refine gp 8 (some 196) (.bool false) rfl rfl (hq1) ?_
   refine gp 9 (some 197) (.bool false) rfl rfl (hq1) ?_
   refine gp 10 (some 198) (.slice (some ⟨g,0,none⟩) (l.length+1) cg) rfl rfl (hq1) ?_
   refine gp 11 (some 199) (.pointer (some ⟨Ba,33,none⟩)) rfl rfl (hq1) ?_
   refine gq 12 (some 200) (.slice A l.length c) rfl rfl (fun X hX=>Ad 44 isAgg44 rfl rfl (hX.hold 1 rfl) rfl) (hq1) ?_
   refine gq 13 (some 201) (.int .i64 (l.length:Nat)) rfl rfl (fun X hX=>Bm 44 40 underlying44 rfl rfl) (hq1) ?_
   refine gq 14 (some 202) (.pointer (some ⟨g,0+l.length * 5,none⟩)) rfl rfl (fun X hX=>Ax 44 5 l.length Rg Rr rfl rfl rfl (Nat.lt_succ_self _)) (hq1) ?_
   refine gp 15 (some 203) (.pointer (some ⟨g,0+l.length * 5+4,none⟩)) rfl rfl (hq1) ?_
   refine gq 16 (some 204) (.int .i64 7) rfl rfl (fun X hX=>Zct 3 4 isAgg3 rfl rfl (own_last (hX.get 4 rfl)) rfl) (hq1) ?_
   refine gq 17 (some 205) (.bool false) rfl rfl (fun X hX=>Jb rfl rfl rfl rfl) (hq1) ?_
   refine gp 18 (some 206) (.bool false) rfl rfl (hq1) ?_
   refine dn ?_
   try simp only[nn]
   have SS:=Ab hq1
   go_wp2_with (first|go_skip|((with_reducible show wpList ..);first|(refine zL (Dm {n with f:=Gq er}) 60 34 3 rwN szN (by rfl) rfl rfl SS rfl rfl rfl ?_;simp only[nn])|((refine stS (vs:=Dm {n with f:=Gq er}) 2 60 (by rfl) rfl rfl rfl rfl (Lc _) szN (Aa SS) rfl (by simp[Bo,VV.cs,KK.cs,DD.cs,zeroD,Av,Dm,Bs,El]) ?_);intro Xz Lz hfz hsz;replace SS:=Ab Lz;clear Lz hfz hsz;simp only[nn])))
   refine Kz rwN szN rfl rfl rfl ((Aa SS).hold 2 rfl) rfl ?_
   exact⟨h1,{n with f:=Gq er},er,rfl,rfl,hP,hQ,HP.To.end H (Aa SS) hb1⟩
