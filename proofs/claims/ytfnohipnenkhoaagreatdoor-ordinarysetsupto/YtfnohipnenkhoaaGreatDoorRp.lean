import Derived.Test.YtfnohipnenkhoaaGreatDoorRo
set_option linter.all false
namespace Go.Proofs.YtfnohipnenkhoaaGreatDoor
set_option maxRecDepth 100000
set_option maxHeartbeats 0
section
open Go Go.Proofs Go.Maps Go.RowKit FM
attribute [local go_sem] Am Al Ar Ah Ao Ai Aw Do Dn Bq Aj Bo
theorem DefP.gd {h:HP} {N M m:Nat} {j:Nat} {q:OB} {k:KK} {d:DD} {h1:HP} {y:Bool} (G:h.Gd N) (hj:h.l[j]? =some q) (hm:q.T.last<=m) (hN:N<=M) (hM:m+1<=M) (hd:FD d) (hg:d.g.k≠7) (hs:d.s.k≠7) (D:DefP h j q k d h1 y):h1.Gd M/\Stp h h1/\h1.fuel=h.fuel/\ ∃q1,h1.l[j]? =some q1/\q1.T.last<=m+1:=by
 have hlt:=(List.getElem?_eq_some_iff.1 hj).1
 rcases D with ⟨hy,⟨-,rfl⟩|⟨rfl,T',rfl,hl,hp⟩⟩
 ·exact⟨G.mono hN,Stp.refl _,rfl,q,hj,by omega⟩
 ·have hO:=Zes (ZbR G.wf hj k) (get_k G.wf hj k) hd hg hs hy.symm
  have h2:(h.tab j q T').Gd M:=Zc2 G hj (fun e he=>by
   rw[hp] at he
   rcases ZdY he with h3|h3
   ·rw[h3];exact hO
   ·exact(G.wf.ob j q hj).ps e h3) (by omega) hN
  exact⟨h2,Zbl h j q T',rfl,{q with T:=T'},by show (h.l.set j _)[j]? =_;rw[List.getElem?_set_self hlt],by show T'.last<=_;omega⟩
def OrdP (h:HP) (M:Nat) (w:World) (e:Ending) (w':World):Prop:= ∃(h1:HP) (c:Int) (er:Value),e= .returned (.tuple #[.int .i64 c,er])/\(er= .nilIface∨ ∃k,er=Bs k)/\h1.Gd M/\h.To h1 w w'/\h1.cap=h.cap/\h1.depth=h.depth/\h1.ent=h.ent/\h1.fuel=h.fuel
theorem ordNew_h (h:HP) (v:VV) (A:Option Addr) (cp:Nat) (l:List (KK×DD)) (N:Nat) (w:World) (H:h.Is w) (G:h.Gd N) (hT:Tabs w) (hvx:v.x<2^64) (hFD: ∀e∈l,FD e.2) (hOk: ∀e∈l,OkK e.1) (hR: ∀X,Fr w X h.blocks->ReadsP X A l) (hz:l.length<=1000000):Calls Tryz.prog 24 #[.pointer (some ⟨h.b,0,none⟩),v.agg, .slice A l.length cp] w (OrdP h (max N l.length) w):=by
 have hl:=G.wf.ok.len
 have SS:=Ab H.start
 rw[Db]
 go_enter Tryz.func24,Tryz.ntmps24
 go_wp2_with (first|go_skip|((with_reducible show wpList ..);(refine zB 36 (v.cs) (by rfl) rfl rfl rfl SS ?_;clear SS;intro Xa Ba SS;simp only[nn])))
 have hS1:Sy w _ h.blocks [hpO h,Aq Ba v.cs]:=(Aa SS).drew
 clear SS
 refine wp_region_held_drew (P:=Tryz.prog) (S:=fun X=>Sy w X h.blocks _) (by kernel_rfl) (hS1) (fun hS0=> ?_)
 refine gp 0 (some 13) (.pointer (some ⟨h.b,0,none⟩)) rfl rfl (hS1) ?_
 refine gq 1 (some 14) (.agg (v.cs).toArray) rfl rfl (fun X hX=>Af (vs:=v.cs) 36 5 rwV szV rfl rfl (hX.hold 1 rfl) rfl rfl) (hS1) ?_
 refine gq 3 (some 16) (.agg (v.cs).toArray) rfl rfl (fun X hX=>Af (vs:=v.cs) 36 5 rwV szV rfl rfl (hX.hold 1 rfl) rfl rfl) (hS1) ?_
 refine gp 5 (some 18) (.slice A l.length cp) rfl rfl (hS1) ?_
 refine gp 7 (some 20) (.pointer (some ⟨h.b,0,none⟩)) rfl rfl (hS1) ?_
 refine gp 8 (some 21) (.slice A l.length cp) rfl rfl (hS1) ?_
 refine gp 10 (some 23) (.pointer (some ⟨h.b,0,none⟩)) rfl rfl (hS1) ?_
 refine gp 11 (some 24) (.slice A l.length cp) rfl rfl (hS1) ?_
 refine gr (rs:= [2]) (gcB 2 (some 15) rfl rfl hS1 (Nj h v _ (hS1.hp 0 rfl) (hT.fr hS1.fr H.low).1) id ?_ gn)
 intro Yt1 hqt1
 simp only[nn]
 refine gr (rs:= [4]) (gcB 4 (some 17) rfl rfl hqt1 (Zdd v _) id ?_ gn)
 intro Yt2 hqt2
 simp only[nn]
 refine gr (rs:= [6]) (gc 6 (some 19) rfl rfl (Zbg A cp l _ (hT.fr hqt2.fr H.low).1 hFD (hR _ hqt2.fr) hz) ?_ gn)
 rintro e Yt3 ⟨c3,rfl,h3,hYt3⟩
 have hqt3:=Sy.on hqt2 hYt3
 refine⟨_,rfl,hqt3, ?_⟩
 simp only[nn]
 refine gr (rs:= [9]) (gc 9 (some 22) rfl rfl (oknown_h h A cp l _ (hqt3.hp 0 rfl) (hT.fr hqt3.fr H.low).1 (hR _ hqt3.fr) hz) ?_ gn)
 rintro e Yt4 ⟨c4,rfl, -,hYt4⟩
 have hqt4:=Sy.on hqt3 hYt4
 refine⟨_,rfl,hqt4, ?_⟩
 simp only[nn]
 refine gr (rs:= [12]) (gc 12 (some 25) rfl rfl (Zcs h A cp l _ (hqt4.hp 0 rfl) hl (hT.fr hqt4.fr H.low).1 (hR _ hqt4.fr) hz) ?_ gn)
 rintro e Yt5 ⟨c5,rfl,h5,hYt5⟩
 have hqt5:=Sy.on hqt4 hYt5
 refine⟨_,rfl,hqt5, ?_⟩
 simp only[nn]
 refine gr (rs:= [13]) (Bj 13 (some 26) rfl rfl (by kernel_rfl) (Ef rfl rfl rfl rfl rfl rfl) (Nat.succ_pos _) hqt5 (fun _ hZ=>Sy.left (L:= [_,_]) (M:= [_]) hZ) ?_ gn)
 intro Yt6 Bt6 hEt6 hqt6
 clear hEt6
 simp only[nn]
 refine gr (rs:= [14]) (gcW 14 (some 27) rfl rfl (Sy.left (L:= [_,_]) (M:= [_]) hqt6) (Mh Bt6 5 [En h.l.length v,De v,c3,c4,c5] _ (hqt6.hold 2 rfl) (by simp)) ?_ gn)
 refine gp 15 (some 8) (.int .i64 (orE [En h.l.length v,De v,c3,c4,c5])) rfl rfl (Sy.left (L:= [_,_]) (M:= [_]) hqt6) ?_
 refine wpAnyH_done (by kernel_rfl) ?_ _
 try simp only[nn]
 have SS:=Ab (Sy.left (L:= [hpO h,Aq Ba v.cs]) (M:= [Aq Bt6 (Oa [En h.l.length v,De v,c3,c4,c5])]) hqt6)
 by_cases hc:orE [En h.l.length v,De v,c3,c4,c5]=0
 ·have hcz:=Et hc
  go_wp2_with (first|go_skip|((with_reducible show wpList ..);first|(refine rd rfl (La rfl rfl rfl hc) ?_)|(refine zL (v.cs) 36 5 1 rwV szV (by rfl) rfl rfl SS rfl rfl rfl ?_;simp only[nn])))
  have HC:=ZbD h v _ ((Aa SS).hp 0 rfl) (hT.fr (Aa SS).fr H.low) hl
  rw[Db] at HC
  refine HC.mono ?_
  rintro _ Y8 (⟨rfl,hmk,T1⟩|⟨hmk,gv,q,rfl,a1,a2,a3,a4,a5,T1⟩)
  ·replace SS:=Ab ((Aa SS).heap 0 rfl T1)
   clear T1 HC
   unfold Bs
   go_wp2_with (first|go_skip|((with_reducible show wpList ..);(refine rd rfl (Va rfl rfl rfl) ?_)))
   go_ret2
   exact⟨h,_,_,rfl, .inr ⟨_,rfl⟩,G.mono (by omega),HP.To.end H (Aa SS) rfl,rfl,rfl,rfl,rfl⟩
  ·replace SS:=Ab ((Aa SS).heap 0 rfl T1)
   clear T1 HC
   have H35:=Ab (fun (e:KK×DD) (he:e∈l)=>And.intro (h3 (hcz c3 (by simp)) e he).1 (h5 (hcz c5 (by simp)) e he))
   have HG:=Ab (And.intro (Zd6 (gv:=gv) G hmk hvx a1 a2 a3 a4 a5) (And.intro (show (h.more gv q).l[h.l.length]? =some q by unfold HP.more;simp) a5))
   go_wp2_with (first|go_skip|((with_reducible show wpList ..);(refine rd rfl (Bi 52 69 Tryz.underlying52 rfl rfl) ?_)))
   go_loopg [43] l.length (fun gm s9 wr=> ∃(i:Nat) (hi:HP) (qi:OB),s9= .int .i64 (i:Nat)/\i<=l.length/\l.length - i<=gm/\Hid (Sy w wr h.blocks [hpO hi,Aq Ba v.cs])/\Hid (hi.Gd (max N i)/\hi.l[h.l.length]? =some qi/\qi.T.last<=i/\hi.b=h.b/\hi.cap=h.cap/\hi.depth=h.depth/\hi.ent=h.ent/\hi.fuel=h.fuel))
   case atStart=>exact⟨0,h.more gv q,q,rfl,by omega,by omega,SS,Ab ⟨(Aa HG).1.mono (by omega),(Aa HG).2.1,by rw[(Aa HG).2.2];exact Nat.le_refl _,rfl,rfl,rfl,rfl,rfl⟩⟩
   case round=>
    clear SS HG
    obtain⟨i,hi,qi,rfl,hil,hgm,SS,HG⟩:=hrel
    by_cases hlt:i<l.length
    ·have dlt:decide ((i:Int)<(l.length:Int))=true:=decide_eq_true (by omega)
     have hw1:IntKind.i64.wrap ((i:Int)+1)=(i:Int)+1:=by rw[IntKind.wrap_i64];omega
     obtain⟨e,hv⟩: ∃e,l[i]? =some e:=⟨_,List.getElem?_eq_getElem hlt⟩
     have hel:=List.mem_of_getElem? hv
     obtain⟨b,off,hA, -, -⟩:=hR w (Fr.refl _ _) i e hv
     subst hA
     have HA2:Hid (∀X,Fr w X h.blocks->X.rangeAt b (off+i * 20) (prC e)):=Ab (fun X hX=>by
      obtain⟨b2,off2,h1, -,h3⟩:=hR X hX i e hv
      cases h1
      exact h3)
     have HLT:=Ab hlt
     clear hlt hil
     go_wp2_with (first|go_skip|((with_reducible show wpList ..);first|(refine rd rfl (Az 52 20 i Oz Pa rfl rfl rfl (Aa HLT)) ?_)|(refine rd rfl (By (vs:=prC e) 69 20 rwP szP rfl rfl (Aa HA2 _ (Aa SS).fr) rfl) ?_)|(refine zA 69 (prC Nt) (by rfl) rfl SS ?_;clear SS;intro X3 B3 SS;simp only[nn])|((refine stS (vs:=prC e) 2 69 (by rfl) rfl rfl rfl rfl (Qq _) szP (Aa SS) rfl (by simp[Bw,prC,Nt,KK.cs,DD.cs,VV.cs]) ?_);intro X4 S4 hf4 hs4;replace SS:=Ab S4;clear S4 hf4 hs4;simp only[nn])|(refine rd rfl (ex_b91 rfl) ?_)|(refine rd rfl (Af (vs:=e.1.cs) 48 2 rwK szK rfl rfl ((Aa SS).hold 2 rfl) rfl rfl) ?_)|(refine rd rfl (Af (vs:=e.2.cs) 39 18 rwD szD rfl rfl ((Aa SS).hold 2 rfl) rfl rfl) ?_)))
     obtain⟨Gi,hqi,hla,hbi,k1,k2,k3,k4⟩:=Aa HG
     have HC:=Ri hi h.l.length qi e.1 e.2 _ ((Aa SS).hp 0 rfl) Gi.wf.ok.len hqi (hT.fr (Aa SS).fr H.low) (hOk e hel) (Aa H35 e hel).1 (ZbR Gi.wf hqi e.1) (hFD e hel) (by have:=hz;omega)
     rw[Ds,Mw,hbi] at HC
     refine HC.mono ?_
     rintro _ Y9 ⟨h9,y,rfl,hD,T9⟩
     have D9:=hD.gd Gi hqi hla (M:=max N (i+1)) (by omega) (by omega) (hFD e hel) (Aa H35 e hel).2.1 (Aa H35 e hel).2.2
     obtain⟨G9,S9,f9,q9,hq9,hl9⟩:=D9
     replace SS:=Ab (Sy.left (L:= [hpO h9,Aq Ba v.cs]) (M:= [_]) ((Aa SS).heap 0 rfl T9))
     have HG9:=Ab (And.intro G9 (And.intro hq9 (And.intro hl9 (And.intro (T9.hb.trans hbi) (And.intro (S9.cap.trans k1) (And.intro (S9.depth.trans k2) (And.intro (S9.ent.trans k3) (f9.trans k4))))))))
     clear hD T9 G9 S9 f9 hq9 hl9 HC Gi hqi hla hbi k1 k2 k3 k4 HG
     go_wp2
     go_roundg (l.length - (i+1))
     case measure=>have:=Aa HLT;omega
     case rel=>exact⟨i+1,h9,q9,by go_num,by have:=Aa HLT;omega,by omega,SS,HG9⟩
    ·obtain rfl:i=l.length:=by omega
     go_wp2_with (go_skip)
     go_ret2
     obtain⟨Gi,hqi,hla,hbi,k1,k2,k3,k4⟩:=Aa HG
     exact⟨hi,_,_,rfl, .inl rfl,Gi,HP.To.end H (Aa SS) hbi,k1,k2,k3,k4⟩
 ·go_wp2_with (first|go_skip|((with_reducible show wpList ..);(refine rd rfl (Gx rfl rfl rfl hc) ?_)))
  go_ret2
  exact⟨h,_,_,rfl, .inr ⟨_,rfl⟩,G.mono (by omega),HP.To.end H (Aa SS) rfl,rfl,rfl,rfl,rfl⟩
