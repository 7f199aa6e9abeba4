import Derived.Test.YtlpdllcedgnaaaaGreatDoorRx
set_option linter.all false
namespace Go.Proofs.YtlpdllcedgnaaaaGreatDoor
set_option maxRecDepth 100000
set_option maxHeartbeats 0
section
open Go Go.Proofs Go.Maps Go.RowKit FM Tryz
attribute [local go_sem] Ao Ai Am Dq Dp Br Ah Bq
theorem Zbj (s:ByteArray) (A:Option Addr) (c:Nat) (ds:List (KK×DD)) (sh:Bool) (w:World) (h6:3<=w.heap.size) (hT:Tabs w) (hR:Qb w A ds) (hF: ∀e∈ds,FD e.2) (hz:ds.length<=40) (hs:s.size<=500) (hf:Gh s=true):Calls prog 3 #[.string s, .slice A ds.length c, .bool sh] w fun e w'=>e= .returned (.bool true)/\Below w.heap.size w w':=by
 have hfit:=Le hf
 have hul:=Qs s
 have hsm:=Vz s
 have dlg:decide ((40:Int)<(ds.length:Int))=false:=decide_eq_false (by omega)
 have dsg:decide ((500:Int)<(s.size:Int))=false:=decide_eq_false (by omega)
 have SS:=Ab (Sy.nil w [])
 have HR:=Ab hR
 have HT:=Ab hT
 have HF:=Ab hF
 clear hR hT hF
 go_enter func3,ntmps3
 go_wp2_with fail
 refine(Mm _ h6 (Aa HT)).mono ?_
 rintro _ X0 ⟨rfl,hb⟩
 replace SS:=Ab ((Aa SS).on hb)
 have h6b:3<=X0.heap.size:=Nat.le_trans h6 hb.size
 clear hb
 go_wp2_with (first|go_skip|((with_reducible show wpList ..);first|((with_reducible show wpList _ _ _ (Oper.mk _ (Op.call _) _ _ _ _::_) _ _);(refine rd rfl (Bu 22 45 underlying22 rfl rfl) ?_))|((with_reducible show wpList _ _ _ (Oper.mk _ (Op.binOp _ _ _ _ _) _ _ _ _::_) _ _);(refine rd rfl (Lr rfl rfl rfl dlg) ?_))|((with_reducible show wpList _ _ _ (Oper.mk _ (Op.call _) _ _ _ _::_) _ _);(refine rd rfl (Oy rfl rfl) ?_))|((with_reducible show wpList _ _ _ (Oper.mk _ (Op.binOp _ _ _ _ _) _ _ _ _::_) _ _);(refine rd rfl (Lr rfl rfl rfl dsg) ?_))))
 refine(Xu 100000 _ h6b (by decide)).mono ?_
 rintro _ X1 ⟨B0,rfl,hI,hB0,hb⟩
 replace SS:=Ab (Zco (Aa SS) hI hB0 hb)
 clear hI hb hB0
 go_wp2_with fail
 refine(Oj 0 _).mono ?_
 rintro _ _ ⟨rfl,rfl⟩
 go_wp2_with fail
 refine(Gs _).mono ?_
 rintro _ Y ⟨rfl,hb⟩
 replace SS:=Ab ((Aa SS).on hb)
 clear hb
 go_wp2_with fail
 have HC:=Yr (Gf B0 1 100000 5) s _ ((Aa SS).hp 0 rfl) (Db (Aa HT) (Aa SS).fr) rfl (Rq B0 100000) hf
 refine HC.mono ?_
 clear HC
 rintro _ Y1 ⟨h0,q0,rfl,hN,T1⟩
 have hSy:=hN.sy (Aa SS) T1
 have hb1:h0.b=B0:=T1.hb
 have hS:SH (unS s) h0 q0 1 100000:=hN.sh (show (0:Int)<=100000 by decide) (show (100000:Int)<=1000000 by decide) rfl rfl
 obtain⟨ov,hov⟩: ∃ov,q0.ov=ov:=⟨_,rfl⟩
 rw[hov] at hSy
 obtain⟨u,hue⟩: ∃u,unS s=u:=⟨_,rfl⟩
 rw[hue] at hSy hS hul hsm
 have hu:UOk u:=⟨hsm,by omega⟩
 have hn:u.length<=2000:=by omega
 have HUL:=Ab (show u.length<=500 by omega)
 have HUE:=Ab hue
 have HS:=Ab hS
 have HB:=Ab hb1
 have HO:=Ab hov
 clear SS
 have SS:=Ab hSy
 clear T1 hN hSy hS hb1 hov hue hsm hul
 rw[show ((0:Nat):Int)+1=1 from rfl]
 go_wp2_with fail
 refine(Oj 0 _).mono ?_
 rintro _ _ ⟨rfl,rfl⟩
 go_wp2_with fail
 go_loopg [11] ds.length (fun gm s11 wr=> ∃(i:Nat) (h:HP) (q:OB),s11= .int .i64 (i:Nat)/\i<=ds.length/\ds.length - i<=gm/\Hid (SH u h q (1+2 * i) (100000 - 6 * (i:Int)))/\Hid (h.b=B0)/\Hid (q.ov=ov)/\Hid (Sy w wr [] [hpO h,Dm 0 103 1 ov u.length (u.map Em)]))
 case atStart=>exact⟨0,h0,q0,rfl,by omega,by omega,HS,HB,HO,SS⟩
 case round=>
  clear SS HS HB HO
  obtain⟨i,h,q,rfl,hil,hgm,HS,HB,HO,SS⟩:=hrel
  by_cases hlt:i<ds.length
  ·have dlt:decide ((i:Int)<(ds.length:Int))=true:=decide_eq_true (by omega)
   have hw1:IntKind.i64.wrap ((i:Int)+1)=(i:Int)+1:=by rw[IntKind.wrap_i64];omega
   obtain⟨⟨k,d⟩,hx⟩: ∃x,ds[i]? =some x:=⟨_,List.getElem?_eq_getElem hlt⟩
   obtain⟨b,off,hDA,hlb,hrg⟩:=Aa HR i _ hx
   have hFd:FD d:=Aa HF _ (List.mem_of_getElem? hx)
   obtain⟨q0,hq0⟩: ∃q0,q0=off+i * 20:=⟨_,rfl⟩
   rw[←hq0] at hrg
   have HRK:=Ab (fun (X:World) (hX:Fr w X [])=>Zbv hrg hlb hX)
   have HDA:=Ab hDA
   have HQ:=Ab hq0
   have HLT:=Ab (And.intro hlt hz)
   replace HLT:Hid (i<ds.length):=Ab hlt
   clear hrg hlb hDA hq0 hx hlt hil
   go_wp2_with (first|go_skip|((with_reducible show wpList ..);first|((with_reducible show wpList _ _ _ (Oper.mk _ (Op.call _) _ _ _ _::_) _ _);(refine rd rfl (Bu 22 45 underlying22 rfl rfl) ?_))|((with_reducible show wpList _ _ _ (Oper.mk _ (Op.indexAddr _ _ _) _ _ _ _::_) _ _);(refine rd rfl (Np rfl rfl rfl (Aa HDA) (Aa HQ) (Aa HLT)) ?_))|((with_reducible show wpList _ _ _ (Oper.mk _ (Op.load _ _) _ _ _ _::_) _ _);(refine rd rfl (Eb (vs:=k.cs) 40 2 rwK szK rfl rfl (Gz (Aa HRK _ (Aa SS).fr)) rfl) ?_))))
   have HKC:=fun (X:World) (hX:Tabs X)=>Pm k X hX.1
   simp only[Ec] at HKC
   refine(HKC _ (Db (Aa HT) (Aa SS).fr)).mono ?_
   clear HKC
   rintro _ Y0 ⟨rfl,hb⟩
   replace SS:=Ab ((Aa SS).on hb)
   clear hb
   by_cases hke:Bl k=0
   ·rw[hke]
    clear hke
    go_wp2_with fail
    refine(Oj 0 _).mono ?_
    rintro _ _ ⟨rfl,rfl⟩
    go_wp2_with fail
    have HDE:=fun {X:World} (hX:Sy w X [] [hpO h,Dm 0 103 1 ov u.length (u.map Em)])=>do_def h q u k d _ _ X (hX.hp 0 rfl) (Aa HS) ((Aa HO).symm▸hX.un) hu hn (Db (Aa HT) hX.fr) hFd (by have:=Aa HLT;omega) (by have:=Aa HLT;omega)
    rw[Aa HB] at HDE
    try simp only[Ec,Dj,Es] at HDE
    have hS19:Sy w _ [] [hpO h,Dm 0 103 1 ov u.length (u.map Em)]:=(Aa SS).drew
    clear SS
    refine wp_region_held_drew (P:=prog) (S:=fun X=>Fr w X []) (by kernel_rfl) (hS19.fr) (fun hS0=> ?_)
    refine gp 0 (some 83) (.pointer (some ⟨B0,0,none⟩)) rfl rfl (hS19.fr) ?_
    refine gp 1 (some 84) (.slice A ds.length c) rfl rfl (hS19.fr) ?_
    refine gp 2 (some 85) (.int .i64 (i:Nat)) rfl rfl (hS19.fr) ?_
    refine gq 3 (some 86) (.pointer (some ⟨b,q0,none⟩)) rfl rfl (fun X hX=>Np rfl rfl rfl (Aa HDA) (Aa HQ) (Aa HLT)) (hS19.fr) ?_
    refine gp 4 (some 87) (.pointer (some ⟨b,q0,none⟩)) rfl rfl (hS19.fr) ?_
    refine gq 5 (some 88) (.agg k.cs.toArray) rfl rfl (fun X hX=>Eb (vs:=k.cs) 40 2 rwK szK rfl rfl (Gz (Aa HRK X hX)) rfl) (hS19.fr) ?_
    refine gp 6 (some 89) (.slice A ds.length c) rfl rfl (hS19.fr) ?_
    refine gp 7 (some 90) (.int .i64 (i:Nat)) rfl rfl (hS19.fr) ?_
    refine gq 8 (some 91) (.pointer (some ⟨b,q0,none⟩)) rfl rfl (fun X hX=>Np rfl rfl rfl (Aa HDA) (Aa HQ) (Aa HLT)) (hS19.fr) ?_
    refine gp 9 (some 92) (.pointer (some ⟨b,q0+2,none⟩)) rfl rfl (hS19.fr) ?_
    refine gq 10 (some 93) (.agg d.cs.toArray) rfl rfl (fun X hX=>Eb (vs:=d.cs) 43 18 rwD szD rfl rfl (Qf (Aa HRK X hX)) rfl) (hS19.fr) ?_
    refine gr (rs:= [11]) (gc 11 (some 94) rfl rfl (HDE hS19) ?_ gn)
    rintro e Yd1 ⟨h1,y1,er1,rfl,⟨hN1, -⟩,T1⟩
    have hq1:=Sy.heap hS19 0 rfl T1
    refine⟨_,rfl,hq1.fr, ?_⟩
    refine wpAnyH_done (by kernel_rfl) ?_ _
    try simp only[nn]
    have SS:=Ab hq1
    obtain⟨q1,hS_,hv_⟩:=(Aa HS).next hN1 (by have:=Aa HLT;omega)
    have hb_:h1.b=B0:=T1.hb.trans (Aa HB)
    have ho_:q1.ov=ov:=hv_.trans (Aa HO)
    replace HS:=Ab hS_
    replace HB:=Ab hb_
    replace HO:=Ab ho_
    clear hS_ hb_ ho_ hv_ hN1
    clear T1
    have HSE:=fun {X:World} (hX:Sy w X [] [hpO h1,Dm 0 103 1 ov u.length (u.map Em)])=>do_set h1 q1 u k d.v _ _ X (hX.hp 0 rfl) (Aa HS) ((Aa HO).symm▸hX.un) hu hn (Db (Aa HT) hX.fr) hFd.1 (by have:=Aa HLT;omega) (by have:=Aa HLT;omega)
    rw[Aa HB] at HSE
    try simp only[Ec,Dj,Es] at HSE
    have HRF:=fun {X:World} (hX:Tabs X)=>ref_any X hX.1
    simp only[Dj] at HRF
    go_wp2_with fail
    have hS20:Sy w _ [] [hpO h1,Dm 0 103 1 ov u.length (u.map Em)]:=(Aa SS).drew
    clear SS
    refine wp_region_held_drew (P:=prog) (S:=fun X=>Fr w X []) (by kernel_rfl) (hS20.fr) (fun hS0=> ?_)
    refine gp 0 (some 95) (.pointer (some ⟨B0,0,none⟩)) rfl rfl (hS20.fr) ?_
    refine gp 1 (some 96) (.slice A ds.length c) rfl rfl (hS20.fr) ?_
    refine gp 2 (some 97) (.int .i64 (i:Nat)) rfl rfl (hS20.fr) ?_
    refine gq 3 (some 98) (.pointer (some ⟨b,q0,none⟩)) rfl rfl (fun X hX=>Np rfl rfl rfl (Aa HDA) (Aa HQ) (Aa HLT)) (hS20.fr) ?_
    refine gp 4 (some 99) (.pointer (some ⟨b,q0,none⟩)) rfl rfl (hS20.fr) ?_
    refine gq 5 (some 100) (.agg k.cs.toArray) rfl rfl (fun X hX=>Eb (vs:=k.cs) 40 2 rwK szK rfl rfl (Gz (Aa HRK X hX)) rfl) (hS20.fr) ?_
    refine gp 6 (some 101) (.slice A ds.length c) rfl rfl (hS20.fr) ?_
    refine gp 7 (some 102) (.int .i64 (i:Nat)) rfl rfl (hS20.fr) ?_
    refine gq 8 (some 103) (.pointer (some ⟨b,q0,none⟩)) rfl rfl (fun X hX=>Np rfl rfl rfl (Aa HDA) (Aa HQ) (Aa HLT)) (hS20.fr) ?_
    refine gp 9 (some 104) (.pointer (some ⟨b,q0+2,none⟩)) rfl rfl (hS20.fr) ?_
    refine gp 10 (some 105) (.pointer (some ⟨b,q0+2,none⟩)) rfl rfl (hS20.fr) ?_
    refine gq 11 (some 106) (.agg d.v.cs.toArray) rfl rfl (fun X hX=>Eb (vs:=d.v.cs) 36 5 rwV szV rfl rfl (rng_v (Qf (Aa HRK X hX))) rfl) (hS20.fr) ?_
    refine gr (rs:= [12]) (gc 12 (some 107) rfl rfl (HRF (Db (Aa HT) hS20.fr)) ?_ gn)
    rintro e Ys1 ⟨rfl,hYs1⟩
    have hqs1:=Sy.on hS20 hYs1
    refine⟨_,rfl,hqs1.fr, ?_⟩
    simp only[nn]
    refine gr (rs:= [13]) (gc 13 (some 108) rfl rfl (HSE hqs1) ?_ gn)
    rintro e Ys2 ⟨h2,y2,er2,rfl,hN2,T2⟩
    have hq2:=Sy.heap hqs1 0 rfl T2
    refine⟨_,rfl,hq2.fr, ?_⟩
    refine wpAnyH_done (by kernel_rfl) ?_ _
    try simp only[nn]
    have SS:=Ab hq2
    obtain⟨q2,hS_,hv_⟩:=(Aa HS).next hN2 (by have:=Aa HLT;omega)
    have hb_:h2.b=B0:=T2.hb.trans (Aa HB)
    have ho_:q2.ov=ov:=hv_.trans (Aa HO)
    replace HS:=Ab hS_
    replace HB:=Ab hb_
    replace HO:=Ab ho_
    clear hS_ hb_ ho_ hv_ hN2
    clear T2
    cases sh
    ·by_cases hod:i % 2=1
     ·go_wp2_with (first|go_skip|((with_reducible show wpList ..);first|((with_reducible show wpList _ _ _ (Oper.mk _ (Op.binOp _ _ _ _ _) _ _ _ _::_) _ _);(refine rd rfl (Uv rfl rfl rfl hod) ?_))|((with_reducible show wpList _ _ _ (Oper.mk _ (Op.binOp _ _ _ _ _) _ _ _ _::_) _ _);(refine rd rfl (Jz rfl rfl rfl rfl) ?_))|((with_reducible show wpList _ _ _ (Oper.mk _ (Op.indexAddr _ _ _) _ _ _ _::_) _ _);(refine rd rfl (Np rfl rfl rfl (Aa HDA) (Aa HQ) (Aa HLT)) ?_))|((with_reducible show wpList _ _ _ (Oper.mk _ (Op.load _ _) _ _ _ _::_) _ _);(refine rd rfl (Eb (vs:=k.cs) 40 2 rwK szK rfl rfl (Gz (Aa HRK _ (Aa SS).fr)) rfl) ?_))))
      have HDL:=fun {X:World} (hX:Sy w X [] [hpO h2,Dm 0 103 1 ov u.length (u.map Em)])=>do_del h2 q2 u k _ _ X (hX.hp 0 rfl) (Aa HS) ((Aa HO).symm▸hX.un) hu hn (Db (Aa HT) hX.fr)  (by have:=Aa HLT;omega) (by have:=Aa HLT;omega)
      rw[Aa HB] at HDL
      try simp only[Ec,Dj,Es] at HDL
      refine(HDL (Aa SS)).mono ?_
      clear HDL
      rintro _ Y3 ⟨h3,y3,er3,rfl,hN3,T3⟩
      replace SS:=Ab ((Aa SS).heap 0 rfl T3)
      obtain⟨q3,hS_,hv_⟩:=(Aa HS).next hN3 (by have:=Aa HLT;omega)
      have hb_:h3.b=B0:=T3.hb.trans (Aa HB)
      have ho_:q3.ov=ov:=hv_.trans (Aa HO)
      replace HS:=Ab hS_
      replace HB:=Ab hb_
      replace HO:=Ab ho_
      clear hS_ hb_ ho_ hv_ hN3
      clear T3
      go_wp2
      go_roundg (ds.length - (i+1))
      case measure=>have:=Aa HLT;omega
      case rel=>exact⟨i+1,h3,q3,by go_num,by have:=Aa HLT;omega,by omega,Ab ((Aa HS).weak (by omega) (by omega)),HB,HO,SS⟩
     ·have hev:i % 2=0:=by omega
      go_wp2_with (first|go_skip|((with_reducible show wpList ..);first|((with_reducible show wpList _ _ _ (Oper.mk _ (Op.binOp _ _ _ _ _) _ _ _ _::_) _ _);(refine rd rfl (Uv rfl rfl rfl hev) ?_))|((with_reducible show wpList _ _ _ (Oper.mk _ (Op.binOp _ _ _ _ _) _ _ _ _::_) _ _);(refine rd rfl (Je rfl rfl rfl (by decide)) ?_))))
      go_roundg (ds.length - (i+1))
      case measure=>have:=Aa HLT;omega
      case rel=>exact⟨i+1,h2,q2,by go_num,by have:=Aa HLT;omega,by omega,Ab ((Aa HS).weak (by omega) (by omega)),HB,HO,SS⟩
    ·by_cases hod:i % 2=1
     ·go_wp2_with (first|go_skip|((with_reducible show wpList ..);first|((with_reducible show wpList _ _ _ (Oper.mk _ (Op.binOp _ _ _ _ _) _ _ _ _::_) _ _);(refine rd rfl (Uv rfl rfl rfl hod) ?_))|((with_reducible show wpList _ _ _ (Oper.mk _ (Op.binOp _ _ _ _ _) _ _ _ _::_) _ _);(refine rd rfl (Jz rfl rfl rfl rfl) ?_))|((with_reducible show wpList _ _ _ (Oper.mk _ (Op.indexAddr _ _ _) _ _ _ _::_) _ _);(refine rd rfl (Np rfl rfl rfl (Aa HDA) (Aa HQ) (Aa HLT)) ?_))|((with_reducible show wpList _ _ _ (Oper.mk _ (Op.load _ _) _ _ _ _::_) _ _);(refine rd rfl (Eb (vs:=k.cs) 40 2 rwK szK rfl rfl (Gz (Aa HRK _ (Aa SS).fr)) rfl) ?_))))
      have HDL:=fun {X:World} (hX:Sy w X [] [hpO h2,Dm 0 103 1 ov u.length (u.map Em)])=>do_del h2 q2 u k _ _ X (hX.hp 0 rfl) (Aa HS) ((Aa HO).symm▸hX.un) hu hn (Db (Aa HT) hX.fr)  (by have:=Aa HLT;omega) (by have:=Aa HLT;omega)
      rw[Aa HB] at HDL
      try simp only[Ec,Dj,Es] at HDL
      refine(HDL (Aa SS)).mono ?_
      clear HDL
      rintro _ Y3 ⟨h3,y3,er3,rfl,hN3,T3⟩
      replace SS:=Ab ((Aa SS).heap 0 rfl T3)
      obtain⟨q3,hS_,hv_⟩:=(Aa HS).next hN3 (by have:=Aa HLT;omega)
      have hb_:h3.b=B0:=T3.hb.trans (Aa HB)
      have ho_:q3.ov=ov:=hv_.trans (Aa HO)
      replace HS:=Ab hS_
      replace HB:=Ab hb_
      replace HO:=Ab ho_
      clear hS_ hb_ ho_ hv_ hN3
      clear T3
      by_cases hq:i=ds.length / 2
      ·go_wp2_with (first|go_skip|((with_reducible show wpList ..);first|((with_reducible show wpList _ _ _ (Oper.mk _ (Op.call _) _ _ _ _::_) _ _);(refine rd rfl (Bu 22 45 underlying22 rfl rfl) ?_))|((with_reducible show wpList _ _ _ (Oper.mk _ (Op.binOp _ _ _ _ _) _ _ _ _::_) _ _);(refine rd rfl (Zq rfl rfl rfl rfl hz) ?_))|((with_reducible show wpList _ _ _ (Oper.mk _ (Op.binOp _ _ _ _ _) _ _ _ _::_) _ _);(refine rd rfl (Jz rfl rfl rfl (by omega)) ?_))))
       have HSH:=fun {X:World} (hX:Sy w X [] [hpO h3,Dm 0 103 1 ov u.length (u.map Em)])=>ZcF h3 q3 u _ _ X (hX.hp 0 rfl) (Aa HS) ((Aa HO).symm▸hX.un) hu hn (Db (Aa HT) hX.fr)  (by have:=Aa HLT;omega) (by have:=Aa HLT;omega)
       rw[Aa HB] at HSH
       try simp only[Ec,Dj,Es] at HSH
       refine(HSH (Aa SS)).mono ?_
       clear HSH
       rintro _ Y9 ⟨h9,y9,er9,rfl,hN9,T9⟩
       replace SS:=Ab ((Aa SS).heap 0 rfl T9)
       obtain⟨q9,hS_,hv_⟩:=(Aa HS).next hN9 (by have:=Aa HLT;omega)
       have hb_:h9.b=B0:=T9.hb.trans (Aa HB)
       have ho_:q9.ov=ov:=hv_.trans (Aa HO)
       replace HS:=Ab hS_
       replace HB:=Ab hb_
       replace HO:=Ab ho_
       clear hS_ hb_ ho_ hv_ hN9
       clear T9
       go_wp2
       go_roundg (ds.length - (i+1))
       case measure=>have:=Aa HLT;omega
       case rel=>exact⟨i+1,h9,q9,by go_num,by have:=Aa HLT;omega,by omega,Ab ((Aa HS).weak (by omega) (by omega)),HB,HO,SS⟩
      ·go_wp2_with (first|go_skip|((with_reducible show wpList ..);first|((with_reducible show wpList _ _ _ (Oper.mk _ (Op.call _) _ _ _ _::_) _ _);(refine rd rfl (Bu 22 45 underlying22 rfl rfl) ?_))|((with_reducible show wpList _ _ _ (Oper.mk _ (Op.binOp _ _ _ _ _) _ _ _ _::_) _ _);(refine rd rfl (Zq rfl rfl rfl rfl hz) ?_))|((with_reducible show wpList _ _ _ (Oper.mk _ (Op.binOp _ _ _ _ _) _ _ _ _::_) _ _);(refine rd rfl (Je rfl rfl rfl (by omega)) ?_))))
       go_roundg (ds.length - (i+1))
       case measure=>have:=Aa HLT;omega
       case rel=>exact⟨i+1,h3,q3,by go_num,by have:=Aa HLT;omega,by omega,Ab ((Aa HS).weak (by omega) (by omega)),HB,HO,SS⟩
     ·have hev:i % 2=0:=by omega
      by_cases hq:i=ds.length / 2
      ·go_wp2_with (first|go_skip|((with_reducible show wpList ..);first|((with_reducible show wpList _ _ _ (Oper.mk _ (Op.binOp _ _ _ _ _) _ _ _ _::_) _ _);(refine rd rfl (Uv rfl rfl rfl hev) ?_))|((with_reducible show wpList _ _ _ (Oper.mk _ (Op.binOp _ _ _ _ _) _ _ _ _::_) _ _);(refine rd rfl (Je rfl rfl rfl (by decide)) ?_))|((with_reducible show wpList _ _ _ (Oper.mk _ (Op.call _) _ _ _ _::_) _ _);(refine rd rfl (Bu 22 45 underlying22 rfl rfl) ?_))|((with_reducible show wpList _ _ _ (Oper.mk _ (Op.binOp _ _ _ _ _) _ _ _ _::_) _ _);(refine rd rfl (Zq rfl rfl rfl rfl hz) ?_))|((with_reducible show wpList _ _ _ (Oper.mk _ (Op.binOp _ _ _ _ _) _ _ _ _::_) _ _);(refine rd rfl (Jz rfl rfl rfl (by omega)) ?_))))
       have HSH:=fun {X:World} (hX:Sy w X [] [hpO h2,Dm 0 103 1 ov u.length (u.map Em)])=>ZcF h2 q2 u _ _ X (hX.hp 0 rfl) (Aa HS) ((Aa HO).symm▸hX.un) hu hn (Db (Aa HT) hX.fr)  (by have:=Aa HLT;omega) (by have:=Aa HLT;omega)
       rw[Aa HB] at HSH
       try simp only[Ec,Dj,Es] at HSH
       refine(HSH (Aa SS)).mono ?_
       clear HSH
       rintro _ Y9 ⟨h9,y9,er9,rfl,hN9,T9⟩
       replace SS:=Ab ((Aa SS).heap 0 rfl T9)
       obtain⟨q9,hS_,hv_⟩:=(Aa HS).next hN9 (by have:=Aa HLT;omega)
       have hb_:h9.b=B0:=T9.hb.trans (Aa HB)
       have ho_:q9.ov=ov:=hv_.trans (Aa HO)
       replace HS:=Ab hS_
       replace HB:=Ab hb_
       replace HO:=Ab ho_
       clear hS_ hb_ ho_ hv_ hN9
       clear T9
       go_wp2
       go_roundg (ds.length - (i+1))
       case measure=>have:=Aa HLT;omega
       case rel=>exact⟨i+1,h9,q9,by go_num,by have:=Aa HLT;omega,by omega,Ab ((Aa HS).weak (by omega) (by omega)),HB,HO,SS⟩
      ·go_wp2_with (first|go_skip|((with_reducible show wpList ..);first|((with_reducible show wpList _ _ _ (Oper.mk _ (Op.binOp _ _ _ _ _) _ _ _ _::_) _ _);(refine rd rfl (Uv rfl rfl rfl hev) ?_))|((with_reducible show wpList _ _ _ (Oper.mk _ (Op.binOp _ _ _ _ _) _ _ _ _::_) _ _);(refine rd rfl (Je rfl rfl rfl (by decide)) ?_))|((with_reducible show wpList _ _ _ (Oper.mk _ (Op.call _) _ _ _ _::_) _ _);(refine rd rfl (Bu 22 45 underlying22 rfl rfl) ?_))|((with_reducible show wpList _ _ _ (Oper.mk _ (Op.binOp _ _ _ _ _) _ _ _ _::_) _ _);(refine rd rfl (Zq rfl rfl rfl rfl hz) ?_))|((with_reducible show wpList _ _ _ (Oper.mk _ (Op.binOp _ _ _ _ _) _ _ _ _::_) _ _);(refine rd rfl (Je rfl rfl rfl (by omega)) ?_))))
       go_roundg (ds.length - (i+1))
       case measure=>have:=Aa HLT;omega
       case rel=>exact⟨i+1,h2,q2,by go_num,by have:=Aa HLT;omega,by omega,Ab ((Aa HS).weak (by omega) (by omega)),HB,HO,SS⟩
   ·have HKE:=Ab hke
    clear hke
    generalize Bl k=ke at *
    go_wp2_with fail
    refine(Oj ke _).mono ?_
    rintro _ _ ⟨rfl,rfl⟩
    go_wp2_with (first|go_skip|((with_reducible show wpList ..);first|((with_reducible show wpList _ _ _ (Oper.mk _ (Op.binOp _ _ _ _ _) _ _ _ _::_) _ _);(refine rd rfl (Pw rfl rfl rfl (Aa HKE)) ?_))))
    go_wp2
    go_roundg (ds.length - (i+1))
    case measure=>have:=Aa HLT;omega
    case rel=>exact⟨i+1,h,q,by go_num,by have:=Aa HLT;omega,by omega,Ab ((Aa HS).weak (by omega) (by omega)),HB,HO,SS⟩
  ·obtain rfl:i=ds.length:=by omega
   clear hlt hil
   have he0:erS s=0:=by unfold erS;rw[hfit.2];rfl
   have HUN:=fun (X:World) (hX:Tabs X)=>Vy s (by omega) X hX.1
   rw[he0,Aa HUE] at HUN
   clear he0
   replace HS:=Ab ((Aa HS).weak (N':=99) (Fu':=99000) (by omega) (by omega))
   go_wp2_with (first|go_skip|((with_reducible show wpList ..);first|((with_reducible show wpList _ _ _ (Oper.mk _ (Op.call _) _ _ _ _::_) _ _);(refine rd rfl (Bu 22 45 underlying22 rfl rfl) ?_))))
   refine(HUN _ (Db (Aa HT) (Aa SS).fr)).mono ?_
   clear HUN
   rintro _ Y1 ⟨v2,rfl,hO2,hb⟩
   replace SS:=Ab (Sy.addRow (base:=0) (Aa SS) hO2 hb (Nat.zero_le _))
   obtain⟨A2,c2,rfl⟩:=Eg hO2
   clear hO2 hb
   go_wp2_with fail
   obtain⟨KS,hKS⟩: ∃KS,La ((pr q.T).map (·.1))=KS:=⟨_,rfl⟩
   have hlv:q.T.live.length<=99:=Nat.le_trans (Xw ((((Aa SS).hp 0 rfl)).ob (Aa HS).at0).2.1) (Aa HS).la
   have hkl:=ordK_len ((pr q.T).map (·.1))
   have hkp:=ordK_pos (Aa HS).qi.mem
   rw[hKS] at hkl hkp
   have hpl:((pr q.T).map (·.1)).length=q.T.live.length:=by unfold pr;simp
   rw[hpl] at hkl
   have HK:=ZcG h q u 99 99000 _ ((Aa SS).hp 0 rfl) (Aa HS) ((Aa HO).symm▸(Aa SS).un) hu hn (Db (Aa HT) (Aa SS).fr) (by decide) (by decide) (by omega) (by rw[hKS];have:=Aa HUL;omega)
   rw[hKS,Aa HB] at HK
   refine HK.mono ?_
   clear HK hlv hpl
   rintro _ Y2 ⟨V,rfl,hO,T2⟩
   replace SS:=Ab (OwnK.thing (Aa SS) 0 rfl T2 hO)
   replace HS:=Ab (((Aa HS).less (by decide)).weak (N':=100) (Fu':=98000) (by decide) (by decide))
   have hb_:h.less.b=B0:=Aa HB
   replace HB:=Ab hb_
   obtain⟨h5,hh5⟩: ∃h5,h.less=h5:=⟨_,rfl⟩
   rw[hh5] at HS HB SS
   clear hb_ hO T2 hh5 hKS
   obtain⟨nk,hnk⟩: ∃nk,(Kc u.length++KS).length=nk:=⟨_,rfl⟩
   have HKL:=Ab hnk
   have HNK:=Ab (show u.length+1<=nk by rw[←hnk,List.length_append,Oq];omega)
   have SS2:=Aa SS
   rw[hnk] at SS2
   clear SS
   have SS:=Ab SS2
   obtain⟨gK,ck,hVk, -⟩:=Zf (SS2.get 3 rfl) hnk 0 (by have:=Aa HNK;omega)
   subst hVk
   clear SS2 hnk hkl hkp
   go_wp2_with fail
   refine(Oj 0 _).mono ?_
   rintro _ _ ⟨rfl,rfl⟩
   go_wp2_with (first|go_skip|((with_reducible show wpList ..);first|((with_reducible show wpList _ _ _ (Oper.mk _ (Op.call _) _ _ _ _::_) _ _);(refine rd rfl (Bu 55 40 underlying55 rfl rfl) ?_))|((with_reducible show wpList _ _ _ (Oper.mk _ (Op.call _) _ _ _ _::_) _ _);(refine rd rfl (Bu 52 103 underlying52 rfl rfl) ?_))|((with_reducible show wpList _ _ _ (Oper.mk _ (Op.binOp _ _ _ _ _) _ _ _ _::_) _ _);(refine rd rfl (ex_ad3 rfl rfl rfl (by have:=Aa HUL;omega)) ?_))|((with_reducible show wpList _ _ _ (Oper.mk _ (Op.binOp _ _ _ _ _) _ _ _ _::_) _ _);(refine rd rfl (ex_lt3 (r:=false) rfl rfl rfl (decide_eq_false (by have:=Aa HNK;omega))) ?_))))
   go_loopg [16,17] u.length (fun gm s16 s17 wr=> ∃(i:Nat) (h2:HP),s16= .string (ofS (u.take i))/\s17= .int .i64 (i:Nat)/\i<=u.length/\u.length - i<=gm/\Hid (SH u h2 q 100 (98000 - 2 * (i:Int)))/\Hid (h2.b=B0)/\Hid (Sy w wr [] [hpO h2,Dm 0 103 1 ov u.length (u.map Em),Dm 0 103 1 (.slice A2 u.length c2) u.length (u.map Em),Dm 0 40 2 (.slice (some ⟨gK,0,none⟩) nk ck) nk (Dg (Kc u.length++KS))]))
   case atStart=>exact⟨0,h5,rfl,rfl,by omega,by omega,HS,HB,SS⟩
   case round=>
    clear SS HS HB
    obtain⟨i,h2,rfl,rfl,hil,hgm,HS,HB,SS⟩:=hrel
    by_cases hlt:i<u.length
    ·have dlt:decide ((i:Int)<(u.length:Int))=true:=decide_eq_true (by omega)
     have hw1:IntKind.i64.wrap ((i:Int)+1)=(i:Int)+1:=by rw[IntKind.wrap_i64];have:=Aa HUL;omega
     have hi32:i<=4294967295:=by have:=Aa HUL;omega
     have HLT:=Ab hlt
     have HI1:=Ab (show i<=1048576 by have:=Aa HUL;omega)
     have HNI:=Ab (show i<nk by have:=Aa HNK;omega)
     obtain⟨qk,hqk⟩: ∃qk,qk=0+i * 2:=⟨_,rfl⟩
     have HQK:=Ab hqk
     obtain⟨g2,c2b,hv2,hc2⟩:=own_nz ((Aa SS).get 2 rfl) hlt
     have hv2b:A2=some ⟨g2,0,none⟩/\c2=c2b:=by cases hv2;exact⟨rfl,rfl⟩
     have HA2:=Ab hv2b.1
     have HC2:=Ab (show i+1<=c2 by rw[hv2b.2];omega)
     have HUB:=Ab (unB_idx hlt hu.2)
     have HSO:=Ab ((Aa HS).qi.so (Aa HUB).1)
     have HTS:=Ab (ZcY hlt)
     have HTU:=Ab (uniU hu i)
     have HTA:=Ab (show ∀x∈u.take i,x<65536 from fun x hx=>hu.1 x (List.mem_of_mem_take hx))
     have HTL:=Ab (show (u.take i).length+((u.drop i).take 1).length<=1000 by have:=Aa HUL;simp;omega)
     have HFT:=Ab (Zb6 hu i)
     have HOC:=Ab (fun (X:World) (hO:X.ownsRow 0 103 1 (.slice A2 u.length c2) u.length (u.map Em))=>own_cut2 (Aa HA2) hO hlt (show u.length<=c2 by rw[hv2b.2];exact hc2))
     have HUD:=Ab (Aa HUB).2
     unfold Zbf at HUD
     generalize (u.drop i).take 1=t at *
     clear hv2 hv2b hc2 hlt hil hqk HUB
     have HFI:=fun {X:World} (hX:Tabs X)=>Kk i hi32 X hX.2
     rw[show KK.agg ⟨Kv i,0⟩=(Gc i).agg from rfl] at HFI
     simp only[Ec] at HFI
     go_wp2_with (first|go_skip|((with_reducible show wpList ..);first|((with_reducible show wpList _ _ _ (Oper.mk _ (Op.call _) _ _ _ _::_) _ _);(refine rd rfl (Bu 52 103 underlying52 rfl rfl) ?_))|((with_reducible show wpList _ _ _ (Oper.mk _ (Op.convert _ _ _) _ _ _ _::_) _ _);(refine rd rfl (ZbL rfl rfl hi32) ?_))))
     refine(HFI (Db (Aa HT) (Aa SS).fr)).mono ?_
     rintro _ Y1 ⟨rfl,hb⟩
     replace SS:=Ab ((Aa SS).on hb)
     clear hb
     go_wp2_with fail
     refine(Gs _).mono ?_
     rintro _ Y2 ⟨rfl,hb⟩
     replace SS:=Ab ((Aa SS).on hb)
     clear hb
     go_wp2_with fail
     have HG:=ZbR h2 q u (Gc i) 100 _ _ ((Aa SS).hp 0 rfl) (Aa HS) ((Aa HO).symm▸(Aa SS).un) hu hn (Db (Aa HT) (Aa SS).fr) (Ot (by have:=Aa HI1;have:=Aa HUL;have:=Aa HLT;omega)) (by have:=Aa HLT;have:=Aa HUL;omega) (Aa HSO).2 (by rw[(Aa HSO).1,Aa HUD];rfl)
     rw[(Aa HSO).1,Aa HUD,Aa HB] at HG
     simp only[Ec,Dj] at HG ⊢
     refine HG.mono ?_
     clear HG
     rintro _ Y3 ⟨rfl,T3⟩
     replace SS:=Ab ((Aa SS).heap 0 rfl T3)
     clear T3
     replace HS:=Ab ((Aa HS).less (by have:=Aa HLT;have:=Aa HUL;omega))
     have hb_:h2.less.b=B0:=Aa HB
     replace HB:=Ab hb_
     clear hb_
     obtain⟨h3,hh3⟩: ∃h3,h2.less=h3:=⟨_,rfl⟩
     rw[hh3] at HS HB SS
     clear hh3
     go_wp2_with (first|go_skip|((with_reducible show wpList ..);first|((with_reducible show wpList _ _ _ (Oper.mk _ (Op.alloc _) _ _ _ _::_) _ _);(refine zA 36 (Bh.cs) (by rfl) rfl SS ?_;clear SS;intro Xv Bv SS;simp only[nn]))|((with_reducible show wpList _ _ _ (Oper.mk _ (Op.store _ _ _) _ _ _ _::_) _ _);(refine zS ((Do (ofS t)).cs) 4 36 (by rfl) rfl rfl rfl rfl (Jl _) szV SS rfl ?_;clear SS;intro Xy SS;simp only[nn]))|((with_reducible show wpList _ _ _ (Oper.mk _ (Op.indexAddr _ _ _) _ _ _ _::_) _ _);(refine rd rfl (ex_ixK rfl rfl rfl (Aa HQK) (Aa HNI)) ?_))|((with_reducible show wpList _ _ _ (Oper.mk _ (Op.load _ _) _ _ _ _::_) _ _);(refine rd rfl (Eb (vs:=(Gc i).cs) 40 2 rwK szK rfl rfl (Zcs (Aa SS) 3 rfl (Aa HKL) (Aa HLT) (Aa HQK)) rfl) ?_))))
     have HW:=do_own h3 q u (Gc i) 100 _ _ ((Aa SS).hp 0 rfl) (Aa HS) ((Aa HO).symm▸(Aa SS).un) hu hn (Db (Aa HT) (Aa SS).fr) (Ot (by have:=Aa HUL;have:=Aa HLT;omega)) (by have:=Aa HLT;have:=Aa HUL;omega)
     rw[(Aa HSO).1,(Aa HSO).2,Aa HUD,Aa HB] at HW
     simp only[Ec,Es] at HW
     refine HW.mono ?_
     clear HW
     rintro _ Y4 ⟨rfl,T4⟩
     replace SS:=Ab ((Aa SS).heap 0 rfl T4)
     clear T4
     replace HS:=Ab ((Aa HS).less (by have:=Aa HLT;have:=Aa HUL;omega))
     have hb_:h3.less.b=B0:=Aa HB
     replace HB:=Ab hb_
     clear hb_
     obtain⟨h4,hh4⟩: ∃h4,h3.less=h4:=⟨_,rfl⟩
     rw[hh4] at HS HB SS
     clear hh4
     go_wp2_with (first|go_skip|((with_reducible show wpList ..);first|((with_reducible show wpList _ _ _ (Oper.mk _ (Op.alloc _) _ _ _ _::_) _ _);(refine zA 43 (Al.cs) (by rfl) rfl SS ?_;clear SS;intro Xd Bd SS;simp only[nn]))|((with_reducible show wpList _ _ _ (Oper.mk _ (Op.store _ _ _) _ _ _ _::_) _ _);(refine zS ((DD.mk (Do (ofS t)) Bh Bh 1 2 1).cs) 5 43 (by rfl) rfl rfl rfl rfl (Ea _) szD SS rfl ?_;clear SS;intro Xx SS;simp only[nn]))))
     have HOF:=fun {X:World} (hX:Sy w X [] [hpO h4,Dm 0 103 1 ov u.length (u.map Em),Dm 0 103 1 (.slice A2 u.length c2) u.length (u.map Em),Dm 0 40 2 (.slice (some ⟨gK,0,none⟩) nk ck) nk (Dg (Kc u.length++KS)),Bf Bv (Dh Bh.cs 0 (Do (ofS t)).cs),Bf Bd (Dh Al.cs 0 (DD.mk (Do (ofS t)) Bh Bh 1 2 1).cs)])=>of_any2 (.slice (some ⟨g2,i,none⟩) 1 (c2 - i)) t (Aa HTU) (by have:=Aa HTL;omega) X (Aa HOC X (hX.get 2 rfl))
     have HST:=fun {X:World} (hX:Tabs X)=>Qt (ofS t) (Aa HFT) X hX.1
     simp only[Dj] at HST
     have hS35:Sy w _ [] [hpO h4,Dm 0 103 1 ov u.length (u.map Em),Dm 0 103 1 (.slice A2 u.length c2) u.length (u.map Em),Dm 0 40 2 (.slice (some ⟨gK,0,none⟩) nk ck) nk (Dg (Kc u.length++KS)),Bf Bv (Dh Bh.cs 0 (Do (ofS t)).cs),Bf Bd (Dh Al.cs 0 (DD.mk (Do (ofS t)) Bh Bh 1 2 1).cs)]:=(Aa SS).drew
     clear SS
     refine wp_region_held_drew (P:=prog) (S:=fun X=>Sy w X [] _) (by kernel_rfl) (hS35) (fun hS0=> ?_)
     refine gp 0 (some 179) (.nilIface) rfl rfl (hS35) ?_
     refine gp 1 (some 180) (.bool false) rfl rfl (hS35) ?_
     refine gp 2 (some 181) (.bool false) rfl rfl (hS35) ?_
     refine gp 3 (some 182) (.nilIface) rfl rfl (hS35) ?_
     refine gp 4 (some 183) (.bool false) rfl rfl (hS35) ?_
     refine gp 5 (some 184) (.bool false) rfl rfl (hS35) ?_
     refine gp 6 (some 185) (.bool false) rfl rfl (hS35) ?_
     refine gp 7 (some 186) (.bool true) rfl rfl (hS35) ?_
     refine gp 8 (some 187) (.bool false) rfl rfl (hS35) ?_
     refine gp 9 (some 188) (.bool false) rfl rfl (hS35) ?_
     refine gp 10 (some 189) (.bool false) rfl rfl (hS35) ?_
     refine gp 11 (some 190) (.slice (some ⟨gK,0,none⟩) nk ck) rfl rfl (hS35) ?_
     refine gp 12 (some 191) (.int .i64 (i:Nat)) rfl rfl (hS35) ?_
     refine gq 13 (some 192) (.pointer (some ⟨gK,qk,none⟩)) rfl rfl (fun X hX=>ex_ixK rfl rfl rfl (Aa HQK) (Aa HNI)) (hS35) ?_
     refine gq 14 (some 193) (.agg (Gc i).cs.toArray) rfl rfl (fun X hX=>Eb (vs:=(Gc i).cs) 40 2 rwK szK rfl rfl (Zcs hX 3 rfl (Aa HKL) (Aa HLT) (Aa HQK)) rfl) (hS35) ?_
     refine gp 15 (some 194) (.int .i64 (i:Nat)) rfl rfl (hS35) ?_
     refine gq 16 (some 195) (.int .u32 (i:Nat)) rfl rfl (fun X hX=>ZbL rfl rfl hi32) (hS35) ?_
     refine gr (rs:= [17]) (gcB 17 (some 196) rfl rfl hS35 (HFI (Db (Aa HT) hS35.fr)) id ?_ gn)
     intro Yr1 hqr1
     refine gq 18 (some 197) (.bool false) rfl rfl (fun X hX=>ex_kne (k:=Gc i) rfl rfl rfl) (hqr1) ?_
     refine gp 19 (some 198) (.bool false) rfl rfl (hqr1) ?_
     refine gp 20 (some 199) (.bool false) rfl rfl (hqr1) ?_
     refine gq 21 (some 200) (.agg (Do (ofS t)).cs.toArray) rfl rfl (fun X hX=>Aj (vs:=(Do (ofS t)).cs) 36 5 rwV szV rfl rfl (hX.hold 4 rfl) rfl rfl) (hqr1) ?_
     refine gp 22 (some 201) (.slice A2 u.length c2) rfl rfl (hqr1) ?_
     refine gp 23 (some 202) (.int .i64 (i:Nat)) rfl rfl (hqr1) ?_
     refine gp 24 (some 203) (.int .i64 (i:Nat)) rfl rfl (hqr1) ?_
     refine gq 25 (some 204) (.int .i64 ((i+1:Nat):Int)) rfl rfl (fun X hX=>ex_ad3 rfl rfl rfl (Aa HI1)) (hqr1) ?_
     refine gq 26 (some 205) (.slice (some ⟨g2,i,none⟩) 1 (c2 - i)) rfl rfl (fun X hX=>ex_slU2 rfl rfl rfl rfl (Aa HA2) rfl (Aa HC2)) (hqr1) ?_
     refine gr (rs:= [27]) (gcB 27 (some 206) rfl rfl hqr1 (HOF hqr1) id ?_ gn)
     intro Yr2 hqr2
     simp only[nn]
     refine gr (rs:= [28]) (gcB 28 (some 207) rfl rfl hqr2 (HST (Db (Aa HT) hqr2.fr)) id ?_ gn)
     intro Yr3 hqr3
     refine gq 29 (some 208) (.bool false) rfl rfl (fun X hX=>ex_neV (p:=(Do (ofS t))) (q:=(Do (ofS t))) rfl rfl rfl (by rw[Zb5];rfl)) (hqr3) ?_
     refine gp 30 (some 209) (.bool false) rfl rfl (hqr3) ?_
     refine gp 31 (some 210) (.bool false) rfl rfl (hqr3) ?_
     refine gp 32 (some 211) (.pointer (some ⟨Bd,15,none⟩)) rfl rfl (hqr3) ?_
     refine gq 33 (some 212) (.int .i64 1) rfl rfl (fun X hX=>Ad 41 isAgg41 rfl rfl (hX.hold 5 rfl) rfl) (hqr3) ?_
     refine gp 34 (some 213) (.bool false) rfl rfl (hqr3) ?_
     refine gp 35 (some 214) (.bool false) rfl rfl (hqr3) ?_
     refine gp 36 (some 215) (.bool false) rfl rfl (hqr3) ?_
     refine gp 37 (some 216) (.pointer (some ⟨Bd,17,none⟩)) rfl rfl (hqr3) ?_
     refine gq 38 (some 217) (.int .i64 1) rfl rfl (fun X hX=>Ad 41 isAgg41 rfl rfl (hX.hold 5 rfl) rfl) (hqr3) ?_
     refine gp 39 (some 218) (.bool false) rfl rfl (hqr3) ?_
     refine gp 40 (some 219) (.bool false) rfl rfl (hqr3) ?_
     refine gp 41 (some 220) (.bool false) rfl rfl (hqr3) ?_
     refine gp 42 (some 221) (.pointer (some ⟨Bd,16,none⟩)) rfl rfl (hqr3) ?_
     refine gq 43 (some 222) (.int .i64 2) rfl rfl (fun X hX=>Ad 41 isAgg41 rfl rfl (hX.hold 5 rfl) rfl) (hqr3) ?_
     refine gp 44 (some 223) (.bool false) rfl rfl (hqr3) ?_
     refine gp 45 (some 224) (.bool false) rfl rfl (hqr3) ?_
     refine wpAnyH_done (by kernel_rfl) ?_ _
     try simp only[nn]
     have SS:=Ab hqr3
     go_wp2_with (first|go_skip|((with_reducible show wpList ..);first|((with_reducible show wpList _ _ _ (Oper.mk _ (Op.load _ _) _ _ _ _::_) _ _);(refine rd rfl (Ad 9 isAgg9 rfl rfl ((Aa SS).hold 4 rfl) rfl) ?_))))
     refine(cat2 (u.take i) t (Aa HTA) (Aa HTU) (Aa HTL) _ (Db (Aa HT) (Aa SS).fr).1).mono ?_
     rintro _ Y6 ⟨rfl,hb⟩
     replace SS:=Ab ((Aa SS).on hb)
     clear hb
     rw[Aa HTS]
     go_wp2_with fail
     refine(Oj 0 _).mono ?_
     rintro _ _ ⟨rfl,rfl⟩
     have S4:=Sy.left (L:= [_,_,_,_]) (M:= [_,_]) (Aa SS)
     clear SS
     have SS:=Ab S4
     clear S4
     go_wp2
     go_roundg (u.length - (i+1))
     case measure=>have:=Aa HLT;omega
     case rel=>exact⟨i+1,h4,rfl,by go_num,by have:=Aa HLT;omega,by omega,Ab ((Aa HS).weak (Nat.le_refl _) (by omega)),HB,SS⟩
    ·obtain rfl:i=u.length:=by omega
     clear hlt hil
     have e16:ofS (u.take u.length)=s:=by rw[List.take_length,←Aa HUE];exact ofS_self hfit.2
     rw[e16]
     clear e16
     go_wp2_with (first|go_skip|((with_reducible show wpList ..);first|((with_reducible show wpList _ _ _ (Oper.mk _ (Op.call _) _ _ _ _::_) _ _);(refine rd rfl (Bu 52 103 underlying52 rfl rfl) ?_))|((with_reducible show wpList _ _ _ (Oper.mk _ (Op.build _ _) _ _ _ _::_) _ _);(refine rd rfl (ex_lkc rfl) ?_))))
     refine(Gs _).mono ?_
     rintro _ Y5 ⟨rfl,hb⟩
     replace SS:=Ab ((Aa SS).on hb)
     clear hb
     go_wp2_with fail
     have HG:=ZbR h2 q u lenK 100 _ _ ((Aa SS).hp 0 rfl) (Aa HS) ((Aa HO).symm▸(Aa SS).un) hu hn (Db (Aa HT) (Aa SS).fr) Pk (by have:=Aa HUL;omega) (Aa HS).qi.len.2.1 (by rw[(Aa HS).qi.len.1];rfl)
     rw[(Aa HS).qi.len.1,show (lenD u.length).v=(Ja (nf u.length)) from rfl,Aa HB] at HG
     simp only[Ec,Dj] at HG ⊢
     refine HG.mono ?_
     clear HG
     rintro _ Y6 ⟨rfl,T6⟩
     replace SS:=Ab ((Aa SS).heap 0 rfl T6)
     clear T6
     replace HS:=Ab ((Aa HS).less (by have:=Aa HUL;omega))
     have hb_:h2.less.b=B0:=Aa HB
     replace HB:=Ab hb_
     clear hb_
     obtain⟨h6,hh6⟩: ∃h6,h2.less=h6:=⟨_,rfl⟩
     rw[hh6] at HS HB SS
     clear hh6
     go_wp2_with (first|go_skip|((with_reducible show wpList ..);first|((with_reducible show wpList _ _ _ (Oper.mk _ (Op.alloc _) _ _ _ _::_) _ _);(refine zA 36 (Bh.cs) (by rfl) rfl SS ?_;clear SS;intro Xn Bn SS;simp only[nn]))|((with_reducible show wpList _ _ _ (Oper.mk _ (Op.store _ _ _) _ _ _ _::_) _ _);(refine zS ((Ja (nf u.length)).cs) 4 36 (by rfl) rfl rfl rfl rfl (Jl _) szV SS rfl ?_;clear SS;intro Xy SS;simp only[nn]))))
     have HD:=data_h h6 q s _ ((Aa SS).hp 0 rfl) (Aa HS).l (Aa HS).qi.ot (by rw[Aa HUE];exact((Aa HO).symm▸(Aa SS).un)) hfit.2 hfit.1
     rw[Aa HB] at HD
     refine HD.mono ?_
     clear HD
     rintro _ Y7 ⟨rfl,hb⟩
     replace SS:=Ab ((Aa SS).on hb)
     clear hb
     go_wp2_with fail
     have HNU:=fun X=>Zcn (nf u.length) X
     simp only[Dj] at HNU
     have hS43:Sy w _ [] [hpO h6,Dm 0 103 1 ov u.length (u.map Em),Dm 0 103 1 (.slice A2 u.length c2) u.length (u.map Em),Dm 0 40 2 (.slice (some ⟨gK,0,none⟩) nk ck) nk (Dg (Kc u.length++KS)),Bf Bn (Dh Bh.cs 0 (Ja (nf u.length)).cs)]:=(Aa SS).drew
     clear SS
     refine wp_region_held_drew (P:=prog) (S:=fun X=>Sy w X [] _) (by kernel_rfl) (hS43) (fun hS0=> ?_)
     refine gp 0 (some 248) (.string s) rfl rfl (hS43) ?_
     refine gp 1 (some 249) (.string s) rfl rfl (hS43) ?_
     refine gq 2 (some 250) (.bool true) rfl rfl (fun X hX=>Zp (s:=s) rfl rfl rfl) (hS43) ?_
     refine gp 3 (some 251) (.bool true) rfl rfl (hS43) ?_
     refine gp 4 (some 252) (.nilIface) rfl rfl (hS43) ?_
     refine gp 5 (some 253) (.bool true) rfl rfl (hS43) ?_
     refine gp 6 (some 254) (.bool true) rfl rfl (hS43) ?_
     refine gp 7 (some 255) (.bool true) rfl rfl (hS43) ?_
     refine gq 8 (some 256) (.agg (Ja (nf u.length)).cs.toArray) rfl rfl (fun X hX=>Aj (vs:=(Ja (nf u.length)).cs) 36 5 rwV szV rfl rfl (hX.hold 4 rfl) rfl rfl) (hS43) ?_
     refine gp 9 (some 257) (.slice A2 u.length c2) rfl rfl (hS43) ?_
     refine gq 10 (some 258) (.int .i64 (u.length:Nat)) rfl rfl (fun X hX=>Bu 52 103 underlying52 rfl rfl) (hS43) ?_
     refine gq 11 (some 259) (.float .f64 (nf u.length)) rfl rfl (fun X hX=>ex_nf rfl rfl) (hS43) ?_
     refine gr (rs:= [12]) (gcB 12 (some 260) rfl rfl hS43 (HNU _) id ?_ gn)
     intro Yz1 hqz1
     refine gq 13 (some 261) (.bool true) rfl rfl (fun X hX=>ex_eqV (p:=(Ja (nf u.length))) (q:=(Ja (nf u.length))) rfl rfl rfl (veq_num hn)) (hqz1) ?_
     refine gp 14 (some 262) (.bool true) rfl rfl (hqz1) ?_
     refine gp 15 (some 263) (.bool true) rfl rfl (hqz1) ?_
     refine gp 16 (some 264) (.string s) rfl rfl (hqz1) ?_
     refine gp 17 (some 265) (.string s) rfl rfl (hqz1) ?_
     refine gq 18 (some 266) (.bool true) rfl rfl (fun X hX=>Zp (s:=s) rfl rfl rfl) (hqz1) ?_
     refine gp 19 (some 267) (.bool true) rfl rfl (hqz1) ?_
     refine gp 20 (some 268) (.bool true) rfl rfl (hqz1) ?_
     refine gp 21 (some 269) (.int .i64 0) rfl rfl (hqz1) ?_
     refine gr (rs:= [22]) (gcW 22 (some 270) rfl rfl (hqz1) (Oj 0 _) ?_ gn)
     refine gp 23 (some 271) (.bool true) rfl rfl (hqz1) ?_
     refine gp 24 (some 272) (.bool true) rfl rfl (hqz1) ?_
     refine gp 25 (some 6) (.bool true) rfl rfl (hqz1) ?_
     refine wpAnyH_done (by kernel_rfl) ?_ _
     try simp only[nn]
     have SS:=Ab hqz1
     go_wp2
     go_ret
     exact⟨rfl,(Aa SS).fr.below⟩
