import Derived.Test.YthcmamjpfigdfaaGreatDoorRx
set_option linter.all false
namespace Go.Proofs.YthcmamjpfigdfaaGreatDoor
set_option maxRecDepth 100000
set_option maxHeartbeats 0
section
open Go Go.Proofs Go.Maps Go.RowKit FM Tryz
attribute [local go_sem] Am Al Ar Ah Ao Ai Au Dg Df Bh Ak Az
theorem ex_neP {o:Oper} {a:Act} {w:World} {x:Operand} {B:Nat} (ho:o.op= .binOp .eql 30 x (.const (.pointer none)) 30) (hx:a.eval x= .pointer (some ⟨B,0,none⟩)):(execOp a.eval o).run prog w= .ok (.value (.bool false)) w:=by
 unfold execOp
 simp only[ho,hx,show a.eval (.const (.pointer none))= .pointer none from rfl]
 simp[go_sem,eqGuard]
theorem ex_ldR0 {o:Oper} {a:Act} {W:World} {x:Operand} {B p:Nat} {cs:List Value} {v:Value} (t:TypeId) (hna: ∀w,(isAgg t).run prog w= .ok false w) (ho:o.op= .load t x) (hx:a.eval x= .pointer (some ⟨B,p,none⟩)) (hc:W.rangeAt B p cs) (hv:cs[0]? =some v):(execOp a.eval o).run prog W= .ok (.value v) W:=Zct t 0 hna ho hx hc hv
theorem Zep {o:Oper} {a:Act} {w:World} {x y:Operand} {n m:Int} (b:Bool) (ho:o.op= .binOp .gtr 3 x y 3) (hx:a.eval x= .int .i64 n) (hc:a.eval y= .int .i64 m) (h:decide (m<n)=b):(execOp a.eval o).run prog w= .ok (.value (.bool b)) w:=by
 subst h
 unfold execOp
 simp only[ho,hx,hc]
 simp[go_sem,eqGuard]
theorem ex_lss {o:Oper} {a:Act} {w:World} {x y:Operand} {n m:Int} (b:Bool) (ho:o.op= .binOp .lss 3 x y 3) (hx:a.eval x= .int .i64 n) (hc:a.eval y= .int .i64 m) (h:decide (n<m)=b):(execOp a.eval o).run prog w= .ok (.value (.bool b)) w:=by
 subst h
 unfold execOp
 simp only[ho,hx,hc]
 simp[go_sem,eqGuard]
structure AlI (c:Int) (B i:Nat) (h:HP) (ms:List MO):Prop where
 b:h.b=B
 gd:h.Gd (43800+i)
 wh:WhH h
 cap:h.cap=c
 len:ms.length=i+1
 ok: ∀m∈ms,m.Ok h
theorem WhH.new (B:Nat) (c f d:Int):WhH (Gn B c f d):=fun q hq=>by cases hq
theorem act9_h (h:HP) (N:Nat) (t:AT) (w:World) (H:h.Is w) (G:h.Gd N) (hN:N<=90000) (hT:Tabs w) (K:t.Ok) (hK:t.Known) (hz:t.ds.length<=1000000) (hR: ∀X,Fr w X h.blocks->t.Reads X):Calls prog 8 #[.pointer (some ⟨h.b,0,none⟩), .agg (actC t).toArray] w (ZeQ h N t w):=by
 by_cases hW:t.W=91
 ·exact act9_91 h N t w H G hN hT K hW hz hR
 ·exact act9_7 h N t w H G hN hT K hK hW hR
theorem always_l (c f d:Int) (A2:Option Addr) (c2:Nat) (fs:List AT) (w:World) (hT:Tabs w) (h6:6<=w.heap.size) (hf1:f<=9223372036854775807) (hfz:fs.length<=1000000) (hfs: ∀t∈fs,t.Known/\t.Ok/\t.ds.length<=43800/\ ∀X,Below w.heap.size w X->t.Reads X) (hA:ReadsG actC 59 w A2 fs):Calls prog 6 #[.agg (Lp c f d (.slice A2 fs.length c2)).toArray, .func (.func 8) #[] #[]] w fun e w'=>e= .returned (.bool true)/\Below w.heap.size w w':=by
 have SS:=Ab (Sy.nil w [])
 go_enter func6,ntmps6
 go_wp2_with (first|go_skip|((with_reducible show wpList ..);first|((with_reducible show wpList _ _ _ (Oper.mk _ (Op.box _ _) _ _ _ _::_) _ _);(refine zB 24 (Lp c f d (.slice A2 fs.length c2)) (by rfl) rfl rfl rfl SS ?_;clear SS;intro Xa Ba SS;simp only[nn]))|((with_reducible show wpList _ _ _ (Oper.mk _ (Op.load _ _) _ _ _ _::_) _ _);(refine z1 3 isAgg3 0 (by rfl) rfl rfl SS rfl rfl ?_;simp only[nn]))))
 refine(new_h c f d _ (Nat.le_trans h6 (Aa SS).fr.size)).mono ?_
 rintro _ Y3 (⟨hb,rfl,hY3⟩|⟨hb,B,rfl,hI,hB,hY3⟩)
 ·go_wp2_with fail
  go_ret
  exact⟨rfl,((Aa SS).on hY3).fr.below⟩
 ·replace SS:=Ab (new_sy (Aa SS) hI hB hY3)
  obtain⟨h0,hh0⟩: ∃h0,h0=Gn B c f d:=⟨_,rfl⟩
  have G0:h0.Gd 43800:=by rw[hh0];exact(new_gd (B:=B) hb hf1).mono (by omega)
  have W0:WhH h0:=by rw[hh0];exact WhH.new B c f d
  have hb0:h0.b=B:=by rw[hh0];rfl
  have hc0:h0.cap=c:=by rw[hh0];rfl
  rw[←hh0] at SS
  clear hI hB hY3 hh0
  by_cases h60:fs.length<=60
  ·have d60:decide ((60:Int)<(fs.length:Int))=false:=decide_eq_false (by omega)
   go_wp2_with (first|go_skip|((with_reducible show wpList ..);first|((with_reducible show wpList _ _ _ (Oper.mk _ (Op.binOp _ _ _ _ _) _ _ _ _::_) _ _);(refine rd rfl (ex_neP rfl rfl) ?_))|((with_reducible show wpList _ _ _ (Oper.mk _ (Op.load _ _) _ _ _ _::_) _ _);(refine rd rfl (Ad 22 isAgg22 rfl rfl ((Aa SS).hold 0 rfl) rfl) ?_))|((with_reducible show wpList _ _ _ (Oper.mk _ (Op.call _) _ _ _ _::_) _ _);(refine rd rfl (Bm 22 56 underlying22 rfl rfl) ?_))|(refine rd rfl (Zep false rfl rfl rfl d60) ?_)))
   have HSH:=ZcW h0 _ ((Aa SS).hp 1 rfl) G0.wf.ok.len (fun j q hj=>Nat.lt_of_le_of_lt (G0.few j q hj) (by omega))
   rw[hb0] at HSH
   refine HSH.mono ?_
   rintro _ Y4 ⟨A0,c0,vs0,rfl,S4⟩
   replace SS:=Ab (Sy.beside (Aa SS) S4)
   clear S4 HSH
   have hq0:=Zfe (L:= [Aq Ba (Lp c f d (.slice A2 fs.length c2)),hpO h0]) (M:= []) (Aa SS)
   replace SS:=Ab hq0
   clear hq0
   obtain⟨m0,hm0⟩: ∃m0:MO,m0=⟨A0,h0.l.length,c0,h0.abs,vs0⟩:=⟨_,rfl⟩
   rw[←hm0] at SS
   have HM0:Hid (m0.Ok h0):=Ab (by rw[hm0];exact⟨Ot h0,(ZeO ((Aa SS).hp 1 rfl) G0 (by omega)).1,ZeZ ((Aa SS).hp 1 rfl) G0 (by omega) W0,LtH.refl (n:=h0.l.length) W0⟩)
   have hv0:Value.slice A0 h0.l.length c0=m0.v:=by rw[hm0];rfl
   rw[hv0]
   clear hv0 hm0
   go_wp2_with (first|go_skip|((with_reducible show wpList ..);((refine bsRow (e:=61) (size:=1) (bytes:=24) (z:= .slice none 0 0) (v:=m0.v) (cs:= [m0.v]) 0 (by rfl) rfl rfl underlying35 infL1 (by omega) rfl rfl (by omega) (Aa SS) (Nat.zero_le _) ?_);intro X3 B3 L3;replace SS:=Ab L3;clear L3;simp only[nn])))
   replace SS:=Ab ((Aa SS).perm (((List.Perm.swap _ _ _).cons _).cons _))
   go_loopg [7,8] fs.length (fun gm s7 s8 wr=> ∃(i:Nat) (h:HP) (Aw:Option Addr) (cw:Nat) (ms:List MO),s7= .slice Aw (i+1) cw/\s8= .int .i64 (i:Nat)/\i<=fs.length/\fs.length - i<=gm/\Hid (AlI c B i h ms)/\Hid (Sy w wr [] [Aq Ba (Lp c f d (.slice A2 fs.length c2)),hpO h,Du 0 61 1 (.slice Aw (i+1) cw) (i+1) (ms.flatMap (fun m=> [MO.v m])),Uz ms]))
   case atStart=>exact⟨0,h0,_,_, [m0],rfl,rfl,by omega,by omega,Ab ⟨hb0,G0,W0,hc0,rfl,fun q hq=>by rw[List.mem_singleton.1 hq];exact Aa HM0⟩,SS⟩
   case round=>
    clear SS HM0
    obtain⟨i,h,Aw,cw,ms,rfl,rfl,hil,hgm,HA,SS⟩:=hrel
    by_cases hlt:i<fs.length
    ·skip
     have dlt:decide ((i:Int)<(fs.length:Int))=true:=decide_eq_true (by omega)
     have hw1:IntKind.i64.wrap ((i:Int)+1)=(i:Int)+1:=by rw[IntKind.wrap_i64];omega
     obtain⟨t,hx⟩: ∃t,fs[i]? =some t:=⟨_,List.getElem?_eq_getElem hlt⟩
     obtain⟨hK,hOk,hds,hrd⟩:=hfs t (List.mem_of_getElem? hx)
     obtain⟨ba,oa,rfl,hba,hra⟩:=hA i t hx
     have HAT:Hid (∀X,Below w.heap.size w X->X.rangeAt ba (oa+i * 59) (actC t)):=Ab (fun X hX=>Dn hra hba hX)
     have HLT:=Ab hlt
     have H60:Hid (i<60):=Ab (by omega)
     have hAI:=Aa HA
     have G:=hAI.gd
     have hW:=hAI.wh
     have hcap:=hAI.cap
     have hBh:=hAI.b
     clear hlt hx hra hil hAI
     subst hBh
     go_wp2_with (first|go_skip|((with_reducible show wpList ..);first|((with_reducible show wpList _ _ _ (Oper.mk _ (Op.load _ _) _ _ _ _::_) _ _);(refine rd rfl (Ad 22 isAgg22 rfl rfl ((Aa SS).hold 0 rfl) rfl) ?_))|((with_reducible show wpList _ _ _ (Oper.mk _ (Op.call _) _ _ _ _::_) _ _);(refine rd rfl (Bm 22 56 underlying22 rfl rfl) ?_))|((with_reducible show wpList _ _ _ (Oper.mk _ (Op.indexAddr _ _ _) _ _ _ _::_) _ _);(refine rd rfl (Ax 22 59 i ZcK Zdk rfl rfl rfl (Aa HLT)) ?_))|((with_reducible show wpList _ _ _ (Oper.mk _ (Op.load _ _) _ _ _ _::_) _ _);(refine rd rfl (Bp (vs:=actC t) 56 59 rwT szT rfl rfl (Aa HAT _ (Aa SS).fr.below) rfl) ?_))))
     have HC:=act9_h h (43800+i) t _ ((Aa SS).hp 1 rfl) G (by have:=Aa H60;omega) (hT.fr (Aa SS).fr (by simp)) hOk hK (by omega) (fun X hX=>hrd X ((Aa SS).fr.trans hX (fun b hb=>(Aa SS).lo (hpO h) (List.mem_of_getElem? (i:=1) rfl) b hb)).below)
     refine HC.mono ?_
     rintro _ Y2 ⟨h1,n,rfl,g1,T1,hcc, -⟩
     have HB1:=Ab T1.hb
     replace SS:=Ab ((Aa SS).heap 1 rfl T1)
     clear T1 HC
     rw[Nat.max_eq_left (by omega)] at g1
     have HL1:=Ab (hcc.2.2.2 hW)
     have HC1:=Ab (hcc.1.trans hcap)
     have HG1:Hid (h1.Gd (43800+(i+1))):=Ab g1
     have h60:=Aa H60
     go_wp2_with fail
     have HSH:=ZcW h1 _ ((Aa SS).hp 1 rfl) g1.wf.ok.len (fun j q hj=>Nat.lt_of_le_of_lt (g1.few j q hj) (by omega))
     rw[Aa HB1] at HSH
     refine HSH.mono ?_
     rintro _ Y5 ⟨A5,c5,vs5,rfl,S5⟩
     replace SS:=Ab (Sy.beside (Aa SS) S5)
     clear S5 HSH
     have hq5:=Zfe (L:= [Aq Ba (Lp c f d (.slice (some ⟨ba,oa,none⟩) fs.length c2)),hpO h1,Du 0 61 1 (.slice Aw (i+1) cw) (i+1) (ms.flatMap (fun m=> [MO.v m])),Uz ms]) (M:= []) (Aa SS)
     replace SS:=Ab hq5
     clear hq5
     obtain⟨m5,hm5⟩: ∃m5:MO,m5=⟨A5,h1.l.length,c5,h1.abs,vs5⟩:=⟨_,rfl⟩
     rw[←hm5] at SS
     have HM5:Hid (m5.Ok h1):=Ab (by rw[hm5];exact⟨Ot h1,(ZeO ((Aa SS).hp 1 rfl) g1 (by omega)).1,ZeZ ((Aa SS).hp 1 rfl) g1 (by omega) (Aa HL1).1,LtH.refl (n:=h1.l.length) (fun q hq=>(Aa HL1).1 q hq)⟩)
     have hR5:=Yb (h:=h1) (m:=m5) ((Aa SS).get 4 rfl) (List.mem_singleton.2 rfl) (Aa HM5)
     rw[hm5] at hR5
     go_wp2_with fail
     refine(snd_h h1 A5 c5 _ g1.ac g1.wf (Aa HL1).1 (fun s hs=>(ZeZ ((Aa SS).hp 1 rfl) g1 (by omega) (Aa HL1).1 s hs).z) (hT.fr (Aa SS).fr (by simp)).1 hR5).mono ?_
     rintro _ Y7 ⟨rfl,hY7⟩
     replace SS:=Ab ((Aa SS).on hY7)
     clear hY7 hR5
     have dcap:decide (c<(h1.l.length:Int))=false:=decide_eq_false (by have:=g1.room;have:=Aa HC1;omega)
     have dfu:decide (h1.fuel<0)=false:=decide_eq_false (by have:=g1.wf.ok.f0;omega)
     go_wp2_with (first|go_skip|((with_reducible show wpList ..);((with_reducible show wpList _ _ _ (Oper.mk _ (Op.call _) _ _ _ _::_) _ _);(refine rd rfl (Bm 61 85 underlying61 rfl rfl) ?_))))
     have HLE:=Mc h1 _ ((Aa SS).hp 1 rfl)
     rw[Aa HB1] at HLE
     refine HLE.mono ?_
     rintro _ _ ⟨rfl,rfl⟩
     clear HLE
     go_wp2_with (first|go_skip|((with_reducible show wpList ..);first|((with_reducible show wpList _ _ _ (Oper.mk _ (Op.call _) _ _ _ _::_) _ _);(refine rd rfl (Bm 61 85 underlying61 rfl rfl) ?_))|((with_reducible show wpList _ _ _ (Oper.mk _ (Op.load _ _) _ _ _ _::_) _ _);(refine z1 3 isAgg3 0 (by rfl) rfl rfl SS rfl rfl ?_;simp only[nn]))|((with_reducible show wpList _ _ _ (Oper.mk _ (Op.binOp _ _ _ _ _) _ _ _ _::_) _ _);(refine rd rfl (Jb rfl rfl rfl rfl) ?_))|(refine rd rfl (Zep false rfl rfl rfl dcap) ?_)))
     have HFU:=Zek h1 _ ((Aa SS).hp 1 rfl)
     rw[Aa HB1] at HFU
     refine HFU.mono ?_
     rintro _ _ ⟨rfl,rfl⟩
     clear HFU
     go_wp2_with (first|go_skip|((with_reducible show wpList ..);(refine rd rfl (ex_lss false rfl rfl rfl dfu) ?_)))
     have HME:=Ab hm5
     clear hm5
     clear dcap dfu G hW hcap hcc hK hOk hds hrd g1 h60
     skip
     go_loopg [10] (i+1) (fun gm2 s10 wr2=> ∃k:Nat,s10= .int .i64 (k:Nat)/\k<=i+1/\i+1 - k<=gm2/\Hid (Sy w wr2 [] [Aq Ba (Lp c f d (.slice (some ⟨ba,oa,none⟩) fs.length c2)),hpO h1,Du 0 61 1 (.slice Aw (i+1) cw) (i+1) (ms.flatMap (fun m=> [MO.v m])),Uz ms,Uz [m5]]))
     case atStart=>exact⟨0,rfl,by omega,by omega,SS⟩
     case round=>
      clear SS
      obtain⟨k,rfl,hkk,hkg,SS⟩:=hrel
      by_cases hlk:k<i+1
      ·obtain⟨m,hm⟩: ∃m,ms[k]? =some m:=⟨_,List.getElem?_eq_getElem (by have:=(Aa HA).len;omega)⟩
       have hmm:=List.mem_of_getElem? hm
       obtain⟨g,c9,h9, -, -⟩:=Uu (f:=fun m=> [MO.v m]) (k:=1) (fun _=>rfl) (show World.ownsRow _ _ _ 1 (.slice Aw (i+1) cw) (i+1) (ms.flatMap (fun m=> [MO.v m])) from (Aa SS).get 2 rfl) (Aa HA).len k (by have:=(Aa HA).len;omega)
       cases h9
       have HM2:Hid (∀X,Sy w X [] [Aq Ba (Lp c f d (.slice (some ⟨ba,oa,none⟩) fs.length c2)),hpO h1,Du 0 61 1 (.slice (some ⟨g,0,none⟩) (i+1) cw) (i+1) (ms.flatMap (fun m=> [MO.v m])),Uz ms,Uz [m5]]->X.rangeAt g (0+k * 1) [MO.v m]):=Ab (fun X hX=>by
        have h8:=Uu (f:=fun m=> [MO.v m]) (k:=1) (fun _=>rfl) (show World.ownsRow _ _ _ 1 (.slice (some ⟨g,0,none⟩) (i+1) cw) (i+1) (ms.flatMap (fun m=> [MO.v m])) from hX.get 2 rfl) (Aa HA).len k (by have:=(Aa HA).len;omega)
        obtain⟨g2,c8,h7, -, -,h6⟩:=h8
        cases h7
        rw[(List.getElem?_eq_some_iff.1 hm).2] at h6
        exact h6)
       have dk:decide ((k:Int)<((i+1:Nat):Int))=true:=decide_eq_true (by omega)
       have dk2:decide ((k:Int)<(i:Int)+1)=true:=decide_eq_true (by omega)
       have hw2:IntKind.i64.wrap ((k:Int)+1)=(k:Int)+1:=by have:=Aa H60;rw[IntKind.wrap_i64];omega
       have HLK:Hid (k<i+1):=Ab hlk
       clear hlk hkk
       have MK:=(Aa HA).ok m hmm
       go_wp2_with (first|go_skip|((with_reducible show wpList ..);first|((with_reducible show wpList _ _ _ (Oper.mk _ (Op.call _) _ _ _ _::_) _ _);(refine rd rfl (Bm 35 61 underlying35 rfl rfl) ?_))|((with_reducible show wpList _ _ _ (Oper.mk _ (Op.indexAddr _ _ _) _ _ _ _::_) _ _);(refine rd rfl (Ax 35 1 k unL1 idL1 rfl rfl rfl (Aa HLK)) ?_))|((with_reducible show wpList _ _ _ (Oper.mk _ (Op.load _ _) _ _ _ _::_) _ _);(refine rd rfl (ex_ldR0 61 isAgg61 rfl rfl (Aa HM2 _ (Aa SS)) rfl) ?_))))
       have HLA:=later_h m.l h1.abs m.A A5 m.c c5 _ (hT.fr (Aa SS).fr (by simp)).1 (MK.lt.trans (Aa HL1).2) MK.z (by rw[Ot];have:=(Aa HG1).wf.ok.len;omega) MK.ok (ZeZ ((Aa SS).hp 1 rfl) (Aa HG1) (by have:=Aa H60;omega) (Aa HL1).1) (Yb (h:=h) ((Aa SS).get 3 rfl) hmm MK) (by have h9:=Yb (h:=h1) (m:=m5) ((Aa SS).get 4 rfl) (List.mem_singleton.2 rfl) (Aa HM5);rw[Aa HME] at h9;exact h9)
       rw[MK.n,Ot] at HLA
       refine HLA.mono ?_
       rintro _ Y6 ⟨rfl,hY6⟩
       replace SS:=Ab ((Aa SS).on hY6)
       clear hY6 HLA MK
       go_wp2
       go_roundg (i+1 - (k+1))
       case measure=>have:=Aa HLK;omega
       case rel=>exact⟨k+1,by go_num,by have:=Aa HLK;omega,by omega,SS⟩
      ·obtain rfl:k=i+1:=by omega
       clear hkk hkg
       have dk:decide (((i+1:Nat):Int)<((i+1:Nat):Int))=false:=decide_eq_false (by omega)
       have dk2:decide ((i:Int)+1<(i:Int)+1)=false:=decide_eq_false (by omega)
       go_wp2_with (first|go_skip|((with_reducible show wpList ..);first|((with_reducible show wpList _ _ _ (Oper.mk _ (Op.call _) _ _ _ _::_) _ _);(refine rd rfl (Bm 35 61 underlying35 rfl rfl) ?_))|((with_reducible show wpList _ _ _ (Oper.mk _ (Op.buildSlice _ _ _) _ _ _ _::_) _ _);((refine bsS (e:=61) (size:=1) (bytes:=24) (z:= .slice none 0 0) (v:= .slice A5 h1.l.length c5) (cs:= [.slice A5 h1.l.length c5]) (by rfl) rfl rfl underlying35 infL1 (by omega) rfl rfl (by omega) (Aa SS) ?_);intro X3 B3 hE3 L3 hb3;replace SS:=Ab L3;clear L3 hb3 hE3;simp only[nn]))|((with_reducible show wpList _ _ _ (Oper.mk _ (Op.call _) _ _ _ _::_) _ _);((refine apS (e:=61) (size:=1) (bytes:=24) (z:= .slice none 0 0) (k:=i+1) (xs:=ms.flatMap (fun m=> [MO.v m])) (news:= [.slice A5 h1.l.length c5]) 2 5 rfl rfl rfl rfl underlying35 infL1 rfl (by omega) (Aa SS) rfl rfl rfl (by simp[Value.oneCell']) (by have:=Aa H60;omega) (by omega) (Nat.zero_le _) ?_);intro A4 c4 X4 S4;replace SS:=Ab S4;clear S4;simp only[nn]))))
       have hq:=mom_snoc (L:= [Aq Ba (Lp c f d (.slice (some ⟨ba,oa,none⟩) fs.length c2)),hpO h1,Du 0 61 1 (.slice A4 (i+1+1) c4) (i+1+1) (ms.flatMap (fun m=> [MO.v m])++ [.slice A5 h1.l.length c5])]) (M:= [Aq B3 [.slice A5 h1.l.length c5]]) (Aa SS)
       have e9:ms.flatMap (fun m=> [MO.v m])++ [.slice A5 h1.l.length c5]=(ms++ [m5]).flatMap (fun m=> [MO.v m]):=by rw[Aa HME];simp[MO.v]
       rw[e9] at hq
       replace SS:=Ab hq
       clear hq e9
       go_roundg (fs.length - (i+1))
       case measure=>have:=Aa HLT;omega
       case rel=>exact⟨i+1,h1,A4,c4,ms++ [m5],rfl,by go_num,by have:=Aa HLT;omega,by omega,Ab ⟨Aa HB1,Aa HG1,(Aa HL1).1,Aa HC1,by rw[List.length_append,(Aa HA).len];rfl,fun q hq=>by
         rcases List.mem_append.1 hq with h3|h3
         ·have:=(Aa HA).ok q h3
          exact⟨this.n,this.z,this.ok,this.lt.trans (Aa HL1).2⟩
         ·rw[List.mem_singleton.1 h3]
          exact Aa HM5⟩,SS⟩
    ·obtain rfl:i=fs.length:=by omega
     go_wp2_with (first|go_skip|((with_reducible show wpList ..);first|((with_reducible show wpList _ _ _ (Oper.mk _ (Op.load _ _) _ _ _ _::_) _ _);(refine rd rfl (Ad 22 isAgg22 rfl rfl ((Aa SS).hold 0 rfl) rfl) ?_))|((with_reducible show wpList _ _ _ (Oper.mk _ (Op.call _) _ _ _ _::_) _ _);(refine rd rfl (Bm 22 56 underlying22 rfl rfl) ?_))))
     go_ret
     exact⟨rfl,(Aa SS).fr.below⟩
  ·have d60:decide ((60:Int)<(fs.length:Int))=true:=decide_eq_true (by omega)
   go_wp2_with (first|go_skip|((with_reducible show wpList ..);first|((with_reducible show wpList _ _ _ (Oper.mk _ (Op.binOp _ _ _ _ _) _ _ _ _::_) _ _);(refine rd rfl (ex_neP rfl rfl) ?_))|((with_reducible show wpList _ _ _ (Oper.mk _ (Op.load _ _) _ _ _ _::_) _ _);(refine rd rfl (Ad 22 isAgg22 rfl rfl ((Aa SS).hold 0 rfl) rfl) ?_))|((with_reducible show wpList _ _ _ (Oper.mk _ (Op.call _) _ _ _ _::_) _ _);(refine rd rfl (Bm 22 56 underlying22 rfl rfl) ?_))|(refine rd rfl (Zep true rfl rfl rfl d60) ?_)))
   go_ret
   exact⟨rfl,(Aa SS).fr.below⟩
end
section
open Go Go.Proofs Go.Maps Go.RowKit FM
attribute [local go_sem] Am Al Ar Ah Ao Ai Au Dg Df Bh Ak Az
theorem ZeJ (hAw: ∀w,Tabs w->6<=w.heap.size->Calls Tryz.prog 5 #[] w fun e w'=>e= .returned (.bool true)/\Below w.heap.size w w') (c f d:Int) (A:Option Addr) (cp:Nat) (ts:List AT) (w:World) (hT:Tabs w) (hz:ts.length<=1000000) (hone: ∀t∈ts,∀u∈actC t,u.oneCell'=true) (hR:ReadsG actC 59 w A ts) (h6:6<=w.heap.size) (hf1:f<=9223372036854775807) (hok: ∀t∈ts,t.Ok/\t.ds.length<=43800/\ ∀X,Below w.heap.size w X->t.Reads X):Calls Tryz.prog 3 #[.agg (Lp c f d (.slice A ts.length cp)).toArray] w fun e w'=>e= .returned (.bool true)/\Below w.heap.size w w':=by
 have SS:=Ab (Sy.nil w [])
 go_enter Tryz.func3,Tryz.ntmps3
 go_wp2_with (first|go_skip|((with_reducible show wpList ..);((with_reducible show wpList _ _ _ (Oper.mk _ (Op.box _ _) _ _ _ _::_) _ _);(refine zB 24 (Lp c f d (.slice A ts.length cp)) (by rfl) rfl rfl rfl SS ?_;clear SS;intro Xa Ba SS;simp only[nn]))))
 refine(hAw _ (hT.fr (Aa SS).fr (by simp)) (Nat.le_trans h6 (Aa SS).fr.size)).mono ?_
 rintro _ Y0 ⟨rfl,hY0⟩
 replace SS:=Ab ((Aa SS).on hY0)
 clear hY0
 go_wp2_with (first|go_skip|((with_reducible show wpList ..);((with_reducible show wpList _ _ _ (Oper.mk _ (Op.load _ _) _ _ _ _::_) _ _);(refine zL (Lp c f d (.slice A ts.length cp)) 24 4 0 rwW szW (by rfl) rfl rfl SS rfl rfl rfl ?_;simp only[nn]))))
 have HC:=known_w c f d A cp ts _ hz hone (fun j t hj=>by obtain⟨b,off,h1,h2,h3⟩:=hR j t hj;exact⟨b,off,h1,Nat.lt_of_lt_of_le h2 (Aa SS).fr.size,Dn h3 h2 (Aa SS).fr.below⟩)
 refine HC.mono ?_
 rintro _ Y1 ⟨A2,c2,rfl,hO,hY1⟩
 replace SS:=Ab ((Aa SS).on hY1)
 clear hY1 HC
 have hA2:=Rl (f:=actC) ZdD hO rfl
 clear hO
 obtain⟨fs,hfs_⟩: ∃fs,fs=ts.filter knB:=⟨_,rfl⟩
 have hfs: ∀t∈fs,t.Known/\t.Ok/\t.ds.length<=43800/\ ∀X,Below w.heap.size w X->t.Reads X:=fun t ht=>by
  rw[hfs_] at ht
  have h9:=List.mem_filter.1 ht
  exact⟨Zga h9.2,hok t h9.1⟩
 have hfz:fs.length<=1000000:=by rw[hfs_];exact Nat.le_trans (List.length_filter_le _ _) hz
 rw[←hfs_] at hA2
 simp only[←hfs_]
 clear hfs_
 go_wp2_with fail
 refine(always_l c f d A2 c2 fs _ (hT.fr (Aa SS).fr (by simp)) (Nat.le_trans h6 (Aa SS).fr.size) hf1 hfz (fun t ht=>⟨(hfs t ht).1,(hfs t ht).2.1,(hfs t ht).2.2.1,fun X hX=>(hfs t ht).2.2.2 X ((Aa SS).fr.below.trans (hX.mono (Aa SS).fr.size))⟩) hA2).mono ?_
 rintro _ Y2 ⟨rfl,hY2⟩
 replace SS:=Ab ((Aa SS).on hY2)
 clear hY2 hA2
 go_wp2
 go_ret
 exact⟨rfl,(Aa SS).fr.below⟩
