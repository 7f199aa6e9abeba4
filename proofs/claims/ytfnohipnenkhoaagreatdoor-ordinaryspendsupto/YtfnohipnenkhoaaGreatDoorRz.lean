import Derived.Test.YtfnohipnenkhoaaGreatDoorRx
import Derived.Test.YtfnohipnenkhoaaGreatDoorRows
import Derived.ProofKit
import Derived.OpenShut
import Derived.ChangeArms
import Derived.ChangeSame
import Derived.Deep.Slices
import Derived.Laws.IdiomArrays
set_option linter.all false
namespace Go.Proofs.YtfnohipnenkhoaaGreatDoor
set_option maxRecDepth 100000
set_option maxHeartbeats 0
section
open Go Go.Proofs Go.Maps Go.RowKit FM Tryz
attribute [local go_sem] Ao Am Au Ah Ap Ai Ax Dn Dm Bq Aj Bp
theorem actAt {X:World} {base e n b off c i:Nat} {fs:List AT} {t:AT} (h:X.ownsRow base e 59 (.slice (some ⟨b,off,none⟩) n c) n (fs.flatMap actC)) (hn:fs.length=n) (hx:fs[i]? =some t):X.rangeAt b (off+i * 59) (actC t):=by
 obtain⟨b2,o2,h1, -,h3⟩:=Oc Zat h hn i t hx
 cases h1
 exact h3
theorem Zd6 {o:Oper} {a:Act} {W:World} {x:Operand} {B p:Nat} {cs:List Value} {v:Value} (t:TypeId) (hna: ∀w,(isAgg t).run prog w= .ok false w) (ho:o.op= .load t x) (hx:a.eval x= .pointer (some ⟨B,p,none⟩)) (hc:W.rangeAt B p cs) (hv:cs[0]? =some v):(execOp a.eval o).run prog W= .ok (.value v) W:=Jv t 0 hna ho hx hc hv
theorem ex_neP {o:Oper} {a:Act} {w:World} {x:Operand} {B:Nat} (ho:o.op= .binOp .eql 27 x (.const (.pointer none)) 27) (hx:a.eval x= .pointer (some ⟨B,0,none⟩)):(execOp a.eval o).run prog w= .ok (.value (.bool false)) w:=by
 unfold execOp
 simp only[ho,hx,show a.eval (.const (.pointer none))= .pointer none from rfl]
 simp[go_sem,eqGuard]
theorem spends_l (hAw: ∀w,Tabs w->6<=w.heap.size->Calls prog 5 #[] w fun e w'=>e= .returned (.bool true)/\Below w.heap.size w w') (c f d:Int) (A:Option Addr) (cp:Nat) (ts:List AT) (w:World) (hT:Tabs w) (hz:ts.length<=1000000) (hone: ∀t∈ts,∀u∈actC t,u.oneCell'=true) (hR:ReadsG actC 59 w A ts) (h6:6<=w.heap.size) (hf1:f<=9223372036854775807) (hok: ∀t∈ts,t.Ok/\t.ds.length<=43800/\ ∀X,Below w.heap.size w X->t.Reads X):Calls prog 3 #[.agg (Nw c f d (.slice A ts.length cp)).toArray] w fun e w'=>e= .returned (.bool true)/\Below w.heap.size w w':=by
 have SS:=Ab (Sy.nil w [])
 go_enter func3,ntmps3
 go_wp2_with (first|go_skip|((with_reducible show wpList ..);first|((with_reducible show wpList _ _ _ (Oper.mk _ (Op.box _ _) _ _ _ _::_) _ _);(refine zB 24 (Nw c f d (.slice A ts.length cp)) (by rfl) rfl rfl rfl SS ?_;clear SS;intro Xa Ba SS;simp only[nn]))))
 refine(hAw _ (hT.fr (Aa SS).fr (by simp)) (Nat.le_trans h6 (Aa SS).fr.size)).mono ?_
 rintro _ Y0 ⟨rfl,hY0⟩
 replace SS:=Ab ((Aa SS).on hY0)
 clear hY0
 go_wp2_with (first|go_skip|((with_reducible show wpList ..);first|((with_reducible show wpList _ _ _ (Oper.mk _ (Op.load _ _) _ _ _ _::_) _ _);(refine zL (Nw c f d (.slice A ts.length cp)) 24 4 0 rwW szW (by rfl) rfl rfl SS rfl rfl rfl ?_;simp only[nn]))))
 have HC:=known_w c f d A cp ts _ hz hone (fun j t hj=>by obtain⟨b,off,h1,h2,h3⟩:=hR j t hj;exact⟨b,off,h1,Nat.lt_of_lt_of_le h2 (Aa SS).fr.size,Ea h3 h2 (Aa SS).fr.below⟩)
 refine HC.mono ?_
 rintro _ Y1 ⟨A2,c2,rfl,hO,hY1⟩
 replace SS:=Ab (Sy.addRow (base:=w.heap.size) (Aa SS) hO hY1 (Aa SS).fr.size)
 clear hO hY1 HC
 go_wp2_with (first|go_skip|((with_reducible show wpList ..);first|((with_reducible show wpList _ _ _ (Oper.mk _ (Op.store _ _ _) _ _ _ _::_) _ _);((refine stS (vs:=Nw c f d (.slice A2 (ts.filter knB).length c2)) 0 24 (by rfl) rfl rfl rfl rfl (by simp[Nw,Value.oneCell'])  szW (Aa SS) rfl (by show 0+4<=4;omega) ?_);intro Xs Ls hfs hss;replace SS:=Ab Ls;clear Ls hfs hss;simp only[nn]))|((with_reducible show wpList _ _ _ (Oper.mk _ (Op.load _ _) _ _ _ _::_) _ _);(refine z1 3 isAgg3 0 (by rfl) rfl rfl SS rfl rfl ?_;simp only[nn]))))
 refine(new_h c f d _ (Nat.le_trans h6 (Aa SS).fr.size)).mono ?_
 rintro _ Y3 (⟨hb,rfl,hY3⟩|⟨hb,B,rfl,hI,hB,hY3⟩)
 ·go_wp2_with fail
  go_ret
  exact⟨rfl,((Aa SS).on hY3).fr.below⟩
 ·replace SS:=Ab (new_sy (Aa SS) hI hB hY3)
  have HG:=Ab (new_gd (B:=B) hb hf1)
  clear hI hB hY3
  obtain⟨fs,hfs_⟩: ∃fs,fs=ts.filter knB:=⟨_,rfl⟩
  rw[←hfs_] at SS
  have hfs: ∀t∈fs,t.Known/\t.Ok/\t.ds.length<=43800/\ ∀X,Below w.heap.size w X->t.Reads X:=fun t ht=>by
   rw[hfs_] at ht
   have h9:=List.mem_filter.1 ht
   exact⟨ZeF h9.2,hok t h9.1⟩
  have hfz:fs.length<=1000000:=by rw[hfs_];exact Nat.le_trans (List.length_filter_le _ _) hz
  simp only[←hfs_]
  clear hfs_
  obtain⟨b2,hb2⟩: ∃b,b=w.heap.size:=⟨_,rfl⟩
  go_wp2_with (first|go_skip|((with_reducible show wpList ..);first|((with_reducible show wpList _ _ _ (Oper.mk _ (Op.binOp _ _ _ _ _) _ _ _ _::_) _ _);(refine rd rfl (ex_neP rfl rfl) ?_;simp only[nn]))))
  go_loopg [5] 100 (fun gm s5 wr=> ∃(i:Nat) (h:HP),s5= .int .i64 (i:Nat)/\i<=fs.length/\i<=100/\100 - i<=gm/\h.b=B/\Hid (h.Gd (43800+i))/\Hid (Sy w wr [] [Aq Ba (Nw c f d (.slice A2 fs.length c2)),Ee w.heap.size 59 59 (.slice A2 fs.length c2) fs.length (fs.flatMap actC),hpO h]))
  case atStart=>exact⟨0,Jd B c f d,rfl,by omega,by omega,by omega,rfl,Ab ((Aa HG).mono (by omega)),SS⟩
  case round=>
   clear SS HG
   obtain⟨i,h,rfl,hil,hi100,hgm,hBh,HG,SS⟩:=hrel
   subst hBh
   by_cases hlt:i<fs.length
   ·by_cases h100:i<100
    ·have dlt:decide ((i:Int)<(fs.length:Int))=true:=decide_eq_true (by omega)
     have d100:decide ((i:Int)<100)=true:=decide_eq_true (by omega)
     have hw1:IntKind.i64.wrap ((i:Int)+1)=(i:Int)+1:=by rw[IntKind.wrap_i64];omega
     obtain⟨t,hx⟩: ∃t,fs[i]? =some t:=⟨_,List.getElem?_eq_getElem hlt⟩
     have HX:=Ab hx
     obtain⟨hK,hOk,hds,hrd⟩:=hfs t (List.mem_of_getElem? hx)
     have hrow:=(Aa SS).get 1 rfl
     obtain⟨b,off,hA, -, -⟩:=Oc (f:=actC) Zat (show World.ownsRow _ _ _ 59 (.slice A2 fs.length c2) fs.length (fs.flatMap actC) from hrow) rfl i t hx
     subst hA
     have HLT:=Ab hlt
     have G:=Aa HG
     clear hlt hrow hx
     go_wp2_with (first|go_skip|((with_reducible show wpList ..);first|((with_reducible show wpList _ _ _ (Oper.mk _ (Op.load _ _) _ _ _ _::_) _ _);(refine rd rfl (Ad 22 isAgg22 rfl rfl ((Aa SS).hold 0 rfl) rfl) ?_;simp only[nn]))|((with_reducible show wpList _ _ _ (Oper.mk _ (Op.call _) _ _ _ _::_) _ _);(refine rd rfl (Bm 22 59 underlying22 rfl rfl) ?_;simp only[nn]))))
     refine(ZbG h _ ((Aa SS).hp 2 rfl)).mono ?_
     rintro _ _ ⟨rfl,rfl⟩
     go_wp2_with fail
     refine(Za h _ ((Aa SS).hp 2 rfl) G.wf.ok.len (fun j q hj=>Nat.lt_of_le_of_lt (G.few j q hj) (by omega))).mono ?_
     rintro _ Y1 ⟨A1,c1,vs1,rfl,S1⟩
     replace SS:=Ab (Sy.beside (Aa SS) S1)
     clear S1
     go_wp2_with (first|go_skip|((with_reducible show wpList ..);first|((with_reducible show wpList _ _ _ (Oper.mk _ (Op.load _ _) _ _ _ _::_) _ _);(refine rd rfl (Ad 22 isAgg22 rfl rfl ((Aa SS).hold 0 rfl) rfl) ?_;simp only[nn]))|((with_reducible show wpList _ _ _ (Oper.mk _ (Op.call _) _ _ _ _::_) _ _);(refine rd rfl (Bm 22 59 underlying22 rfl rfl) ?_;simp only[nn]))|((with_reducible show wpList _ _ _ (Oper.mk _ (Op.indexAddr _ _ _) _ _ _ _::_) _ _);(refine rd rfl (Az 22 59 i Zav ZaB rfl rfl rfl (Aa HLT)) ?_;simp only[nn]))|((with_reducible show wpList _ _ _ (Oper.mk _ (Op.load _ _) _ _ _ _::_) _ _);(refine rd rfl (Db (vs:=actC t) 59 59 rwT szT rfl rfl (actAt ((Aa SS).get 1 rfl) rfl (Aa HX)) rfl) ?_;simp only[nn]))))
     have HC:=act9_h h (43800+i) t _ ((Aa SS).hp 2 rfl) G (by omega) (hT.fr (Aa SS).fr (by simp)) hOk hK (by omega) (fun X hX=>hrd X ((Aa SS).fr.trans hX (fun b hb=>(Aa SS).lo (hpO h) (List.mem_of_getElem? (i:=2) rfl) b hb)).below)
     skip
     refine HC.mono ?_
     rintro _ Y2 ⟨h1,n,rfl,g1,T1,hcc,hq⟩
     have HB1:=Ab T1.hb
     replace SS:=Ab ((Aa SS).heap 2 rfl T1)
     clear T1 HC
     rw[Nat.max_eq_left (by omega)] at g1
     by_cases hW:t.W=0
     ·have HW:decide (t.W=0)=true:=decide_eq_true hW
      obtain⟨er,hnf,hP, -⟩:=hq hW
      clear hW hq
      go_wp2_with (first|go_skip|((with_reducible show wpList ..);first|((with_reducible show wpList _ _ _ (Oper.mk _ (Op.alloc _) _ _ _ _::_) _ _);((refine alS (v:= .agg (Bj Ay).toArray) 45 (Bj Ay) (by rfl) rfl (fun w=>by kernel_rfl) rfl (Nat.succ_pos _) (Aa SS) ?_);intro Xt Bt hEt Lt hbt;replace SS:=Ab Lt;clear Lt hbt hEt;simp only[nn]))|((with_reducible show wpList _ _ _ (Oper.mk _ (Op.store _ _ _) _ _ _ _::_) _ _);((refine stS (vs:=Bj n) 5 45 (by rfl) rfl rfl rfl rfl (Ei _) szN (Aa SS) rfl (by simp[Bs,VV.cs,KK.cs,DD.cs,Ak,Av,Bj,Ay,Do]) ?_);intro Xs Ls hfs hss;replace SS:=Ab Ls;clear Ls hfs hss;simp only[nn]))|((with_reducible show wpList _ _ _ (Oper.mk _ (Op.load _ _) _ _ _ _::_) _ _);(refine rd rfl (Ad 22 isAgg22 rfl rfl ((Aa SS).hold 0 rfl) rfl) ?_;simp only[nn]))|((with_reducible show wpList _ _ _ (Oper.mk _ (Op.call _) _ _ _ _::_) _ _);(refine rd rfl (Bm 22 59 underlying22 rfl rfl) ?_;simp only[nn]))|((with_reducible show wpList _ _ _ (Oper.mk _ (Op.indexAddr _ _ _) _ _ _ _::_) _ _);(refine rd rfl (Az 22 59 i Zav ZaB rfl rfl rfl (Aa HLT)) ?_;simp only[nn]))|((with_reducible show wpList _ _ _ (Oper.mk _ (Op.load _ _) _ _ _ _::_) _ _);(refine rd rfl (Zd6 3 isAgg3 rfl rfl (actAt ((Aa SS).get 1 rfl) rfl (Aa HX)) rfl) ?_;simp only[nn]))|((with_reducible show wpList _ _ _ (Oper.mk _ (Op.binOp _ _ _ _ _) _ _ _ _::_) _ _);(refine rd rfl (ZbI true rfl rfl rfl HW) ?_;simp only[nn]))))
      have HFU:=ZbG h1 _ ((Aa SS).hp 2 rfl)
      rw[Aa HB1] at HFU
      refine HFU.mono ?_
      rintro _ _ ⟨rfl,rfl⟩
      clear HFU
      go_wp2_with (first|go_skip|((with_reducible show wpList ..);first|((with_reducible show wpList _ _ _ (Oper.mk _ (Op.load _ _) _ _ _ _::_) _ _);(refine zL (Bj n) 45 34 5 rwN szN (by rfl) rfl rfl SS rfl rfl rfl ?_;simp only[nn]))))
      refine(Zev n _).mono ?_
      rintro _ Y4 ⟨rfl,hY4⟩
      replace SS:=Ab ((Aa SS).on hY4)
      clear hY4
      rcases hP.2.2 with ⟨c0,hc0,her,hh⟩|⟨hEr,h0,hn0⟩
      ·have HR1:refB n.f=true:=by rw[hnf,her];rcases hc0 with rfl|rfl|rfl<;>rfl
       have hh2:=hh.symm
       clear hh
       subst hh2
       rw[HR1]
       clear HR1 hc0
       go_wp2_with (first|go_skip|((with_reducible show wpList ..);first|((with_reducible show wpList _ _ _ (Oper.mk _ (Op.binOp _ _ _ _ _) _ _ _ _::_) _ _);(refine rd rfl (Ef rfl rfl rfl rfl) ?_;simp only[nn]))))
       have HSH:=Za h _ ((Aa SS).hp 2 rfl) G.wf.ok.len (fun j q hj=>Nat.lt_of_le_of_lt (G.few j q hj) (by omega))
       refine HSH.mono ?_
       rintro _ Y5 ⟨A5,c5,vs5,rfl,S5⟩
       replace SS:=Ab (Sy.beside (Aa SS) S5)
       clear S5 HSH
       go_wp2_with fail
       have hab:=abs_ok ((Aa SS).hp 2 rfl) G (by omega)
       have HSA:=Rw h.abs A1 A5 c1 c5 _ hab.1 hab.2 (Mq (vs:=vs1) (c:=c1) (Oo h) ((Aa SS).get 3 rfl) ((Aa SS).get 4 rfl)) (Mq (vs:=vs5) (c:=c5) (Oo h) ((Aa SS).get 6 rfl) ((Aa SS).get 7 rfl))
       rw[Oo] at HSA
       refine HSA.mono ?_
       rintro _ Y6 ⟨rfl,hY6⟩
       replace SS:=Ab ((Aa SS).on hY6)
       clear hY6 hab HSA
       go_wp2_with fail
       go_roundg (100 - (i+1))
       case measure=>omega
       case rel=>exact⟨i+1,h,by go_num,by have:=Aa HLT;omega,by omega,by omega,rfl,Ab (g1.mono (by omega)),Ab (Sy.left (L:= [_,_,_]) (M:= [_,_,_,_,_]) (Aa SS))⟩
      ·have HR1:refB n.f=false:=by rw[hnf];rcases hEr with rfl|rfl|rfl<;>rfl
       rw[HR1]
       clear HR1
       by_cases hz0:h.fuel=0
       ·obtain⟨her,hh⟩:=h0 hz0
        have hh2:=hh.symm
        clear hh
        subst hh2
        have HF0:decide (h.fuel=0)=true:=decide_eq_true hz0
        have HZ:=Ab hz0
        have HN1:Hid (n.f=1):=Ab (by rw[hnf,her];rfl)
        clear hz0 h0 hn0 hEr
        go_wp2_with (first|go_skip|((with_reducible show wpList ..);first|((with_reducible show wpList _ _ _ (Oper.mk _ (Op.binOp _ _ _ _ _) _ _ _ _::_) _ _);(refine rd rfl (Dk true rfl rfl rfl HF0) ?_;simp only[nn]))|((with_reducible show wpList _ _ _ (Oper.mk _ (Op.load _ _) _ _ _ _::_) _ _);(refine z1 3 isAgg3 5 (by rfl) rfl rfl SS rfl rfl ?_;simp only[nn]))|((with_reducible show wpList _ _ _ (Oper.mk _ (Op.binOp _ _ _ _ _) _ _ _ _::_) _ _);(refine rd rfl (Ef rfl rfl rfl (Aa HN1)) ?_;simp only[nn]))|((with_reducible show wpList _ _ _ (Oper.mk _ (Op.binOp _ _ _ _ _) _ _ _ _::_) _ _);(refine rd rfl (Ef rfl rfl rfl (Aa HZ)) ?_;simp only[nn]))))
        have HSH:=Za h _ ((Aa SS).hp 2 rfl) G.wf.ok.len (fun j q hj=>Nat.lt_of_le_of_lt (G.few j q hj) (by omega))
        refine HSH.mono ?_
        rintro _ Y5 ⟨A5,c5,vs5,rfl,S5⟩
        replace SS:=Ab (Sy.beside (Aa SS) S5)
        clear S5 HSH
        go_wp2_with fail
        have hab:=abs_ok ((Aa SS).hp 2 rfl) G (by omega)
        have HSA:=Rw h.abs A1 A5 c1 c5 _ hab.1 hab.2 (Mq (vs:=vs1) (c:=c1) (Oo h) ((Aa SS).get 3 rfl) ((Aa SS).get 4 rfl)) (Mq (vs:=vs5) (c:=c5) (Oo h) ((Aa SS).get 6 rfl) ((Aa SS).get 7 rfl))
        rw[Oo] at HSA
        refine HSA.mono ?_
        rintro _ Y6 ⟨rfl,hY6⟩
        replace SS:=Ab ((Aa SS).on hY6)
        clear hY6 hab HSA
        go_wp2_with fail
        go_roundg (100 - (i+1))
        case measure=>omega
        case rel=>exact⟨i+1,h,by go_num,by have:=Aa HLT;omega,by omega,by omega,rfl,Ab (g1.mono (by omega)),Ab (Sy.left (L:= [_,_,_]) (M:= [_,_,_,_,_]) (Aa SS))⟩
       ·have HF0:decide (h.fuel=0)=false:=decide_eq_false hz0
        have hlt9:=hn0 hz0
        have HGE:decide (h.fuel<=h1.fuel)=false:=decide_eq_false (by omega)
        have dl0:decide (h1.fuel<0)=false:=decide_eq_false (by have:=hP.1.wf.ok.f0;omega)
        clear hz0 h0 hn0 hEr hlt9
        go_wp2_with (first|go_skip|((with_reducible show wpList ..);first|((with_reducible show wpList _ _ _ (Oper.mk _ (Op.binOp _ _ _ _ _) _ _ _ _::_) _ _);(refine rd rfl (Dk false rfl rfl rfl HF0) ?_;simp only[nn]))|((with_reducible show wpList _ _ _ (Oper.mk _ (Op.binOp _ _ _ _ _) _ _ _ _::_) _ _);(refine rd rfl (Vk false rfl rfl rfl HGE) ?_;simp only[nn]))))
        go_roundg (100 - (i+1))
        case measure=>omega
        case rel=>exact⟨i+1,h1,by go_num,by have:=Aa HLT;omega,by omega,by omega,Aa HB1,Ab (g1.mono (by omega)),Ab (Sy.left (L:= [_,_,_]) (M:= [_,_,_]) (Aa SS))⟩
     ·have HW:decide (t.W=0)=false:=decide_eq_false hW
      clear hW hq
      go_wp2_with (first|go_skip|((with_reducible show wpList ..);first|((with_reducible show wpList _ _ _ (Oper.mk _ (Op.alloc _) _ _ _ _::_) _ _);((refine alS (v:= .agg (Bj Ay).toArray) 45 (Bj Ay) (by rfl) rfl (fun w=>by kernel_rfl) rfl (Nat.succ_pos _) (Aa SS) ?_);intro Xt Bt hEt Lt hbt;replace SS:=Ab Lt;clear Lt hbt hEt;simp only[nn]))|((with_reducible show wpList _ _ _ (Oper.mk _ (Op.store _ _ _) _ _ _ _::_) _ _);((refine stS (vs:=Bj n) 5 45 (by rfl) rfl rfl rfl rfl (Ei _) szN (Aa SS) rfl (by simp[Bs,VV.cs,KK.cs,DD.cs,Ak,Av,Bj,Ay,Do]) ?_);intro Xs Ls hfs hss;replace SS:=Ab Ls;clear Ls hfs hss;simp only[nn]))|((with_reducible show wpList _ _ _ (Oper.mk _ (Op.load _ _) _ _ _ _::_) _ _);(refine rd rfl (Ad 22 isAgg22 rfl rfl ((Aa SS).hold 0 rfl) rfl) ?_;simp only[nn]))|((with_reducible show wpList _ _ _ (Oper.mk _ (Op.call _) _ _ _ _::_) _ _);(refine rd rfl (Bm 22 59 underlying22 rfl rfl) ?_;simp only[nn]))|((with_reducible show wpList _ _ _ (Oper.mk _ (Op.indexAddr _ _ _) _ _ _ _::_) _ _);(refine rd rfl (Az 22 59 i Zav ZaB rfl rfl rfl (Aa HLT)) ?_;simp only[nn]))|((with_reducible show wpList _ _ _ (Oper.mk _ (Op.load _ _) _ _ _ _::_) _ _);(refine rd rfl (Zd6 3 isAgg3 rfl rfl (actAt ((Aa SS).get 1 rfl) rfl (Aa HX)) rfl) ?_;simp only[nn]))|((with_reducible show wpList _ _ _ (Oper.mk _ (Op.binOp _ _ _ _ _) _ _ _ _::_) _ _);(refine rd rfl (ZbI false rfl rfl rfl HW) ?_;simp only[nn]))))
      go_roundg (100 - (i+1))
      case measure=>omega
      case rel=>exact⟨i+1,h1,by go_num,by have:=Aa HLT;omega,by omega,by omega,Aa HB1,Ab (g1.mono (by omega)),Ab (Sy.left (L:= [_,_,_]) (M:= [_,_,_]) (Aa SS))⟩
    ·have dlt:decide ((i:Int)<(fs.length:Int))=true:=decide_eq_true (by omega)
     have d100:decide ((i:Int)<100)=false:=decide_eq_false (by omega)
     go_wp2_with (first|go_skip|((with_reducible show wpList ..);first|((with_reducible show wpList _ _ _ (Oper.mk _ (Op.load _ _) _ _ _ _::_) _ _);(refine rd rfl (Ad 22 isAgg22 rfl rfl ((Aa SS).hold 0 rfl) rfl) ?_;simp only[nn]))|((with_reducible show wpList _ _ _ (Oper.mk _ (Op.call _) _ _ _ _::_) _ _);(refine rd rfl (Bm 22 59 underlying22 rfl rfl) ?_;simp only[nn]))))
     go_ret
     exact⟨rfl,(Aa SS).fr.below⟩
   ·obtain rfl:i=fs.length:=by omega
    go_wp2_with (first|go_skip|((with_reducible show wpList ..);first|((with_reducible show wpList _ _ _ (Oper.mk _ (Op.load _ _) _ _ _ _::_) _ _);(refine rd rfl (Ad 22 isAgg22 rfl rfl ((Aa SS).hold 0 rfl) rfl) ?_;simp only[nn]))|((with_reducible show wpList _ _ _ (Oper.mk _ (Op.call _) _ _ _ _::_) _ _);(refine rd rfl (Bm 22 59 underlying22 rfl rfl) ?_;simp only[nn]))))
    go_ret
    exact⟨rfl,(Aa SS).fr.below⟩
end
section
open Go Go.Proofs Go.RowKit Go.WideShapes Go.ChangeShapes Tryz
theorem Jk:prog.cellsOf 3=1:=by kernel_rfl
theorem ZcF:prog.cellsOf 4=1:=by kernel_rfl
theorem Zao:prog.cellsOf 9=1:=by kernel_rfl
theorem Ze4:prog.cellsOf 34=1:=by kernel_rfl
theorem Vv:prog.cellsOf 37=1:=by kernel_rfl
theorem Jw:prog.cellsOf 36=5:=by kernel_rfl
theorem Vt:prog.cellsOf 48=2:=by kernel_rfl
theorem Vu:prog.cellsOf 39=18:=by kernel_rfl
theorem ZaV:prog.cellsOf 69=20:=by kernel_rfl
theorem ZaX:prog.cellsOf 50=34:=by kernel_rfl
theorem ZaW:prog.cellsOf 59=59:=by kernel_rfl
theorem Ze5:prog.cellsOf 24=4:=by kernel_rfl
theorem Ze6:prog.cellsOf 22=1:=by kernel_rfl
theorem ZaY:prog.cellsOf 41=1:=by kernel_rfl
theorem Ze1:prog.cellsOf 52=1:=by kernel_rfl
theorem Ze2:prog.cellsOf 51=1:=by kernel_rfl
theorem Ze3:prog.cellsOf 40=1:=by kernel_rfl
theorem Ze0:prog.cellsOf 53=1:=by kernel_rfl
theorem ZeZ:prog.cellsOf 54=1:=by kernel_rfl
theorem ZeY:prog.cellsOf 55=3:=by kernel_rfl
theorem ZeX:prog.cellsOf 56=1:=by kernel_rfl
theorem ZeW:prog.cellsOf 57=1:=by kernel_rfl
theorem Bw {H:Type}: ∀d:DataW H,1<=Rows.uptoBulk d:=by
 intro d
 cases d with
 |lit l=>cases l<;>simp[Rows.uptoBulk]
 |_=>simp[Rows.uptoBulk]
theorem Xm {H:Type} {d:DataW H}: ∀{l:List (DataW H)},d∈l->Rows.uptoBulk d<=Rows.uptoBulkAll l
 |a::l,h=>by
  rw[Rows.uptoBulkAll]
  rcases List.mem_cons.1 h with rfl|h
  ·omega
  ·have:=Xm h
   omega
theorem Xn {H:Type} {k:Nat}: ∀{l:List (DataW H)},(∀d∈l,k<=Rows.uptoBulk d)->k * l.length<=Rows.uptoBulkAll l
 | [],_=>by simp
 |a::l,h=>by
  rw[Rows.uptoBulkAll,List.length_cons,Nat.mul_succ]
  have h1:=h a (List.mem_cons_self ..)
  have h2:=Xn (fun d hd=>h d (List.mem_cons_of_mem a hd))
  omega
section
variable {H : Type} {enc : TypeId × Value → H} {P : Program} {W : World} {base : Nat} {sp : Nat → Bool} {held : Bool} {m : Nat} {c : Value} {x : DataW H × List MemPlace} {t : TypeId}
theorem ZaZ (hu:P.underlying t=some .bool) (h:DataW.trod enc P W base sp held m t [c]=some x): ∃b,c= .bool b:=by
 cases m with
 |zero=>simp[DataW.trod] at h
 |succ m=>
  unfold DataW.trod at h
  rw[hu] at h
  split at h<;>simp_all
theorem Zdv (hu:P.underlying t=some (.float .f64)) (h:DataW.trod enc P W base sp held m t [c]=some x): ∃b,c= .float .f64 b/\b<2^64:=by
 cases m with
 |zero=>simp[DataW.trod] at h
 |succ m=>
  unfold DataW.trod at h
  rw[hu] at h
  split at h<;>simp_all
  rename_i e
  subst e
  have h1:=h.1.2
  unfold Lit.wf at h1
  exact of_decide_eq_true h1
theorem Pu (hu:P.underlying t=some .string) (h:DataW.trod enc P W base sp held m t [c]=some x): ∃s,c= .string s/\s.size<=maxLen:=by
 cases m with
 |zero=>simp[DataW.trod] at h
 |succ m=>
  unfold DataW.trod at h
  rw[hu] at h
  split at h<;>simp_all
theorem Ey (hu:P.underlying t=some (.int .i64)) (h:DataW.trod enc P W base sp held m t [c]=some x): ∃n,c= .int .i64 n/\(Lit.int .i64 n).wf=true:=by
 cases m with
 |zero=>simp[DataW.trod] at h
 |succ m=>
  unfold DataW.trod at h
  rw[hu] at h
  split at h<;>simp_all
theorem Kh {e:TypeId} (hu:P.underlying t=some (.slice e)) (h:DataW.trod enc P W base sp held m t [c]=some x):c.oneCell'=true:=by
 rcases Go.Deep.open_slice hu h with ⟨hcs, -⟩|⟨a,len,cap,m',k,D,Pl,hcs, -⟩
 ·obtain rfl:=List.singleton_inj.1 hcs;rfl
 ·obtain rfl:=List.singleton_inj.1 hcs;rfl
end
theorem ZdW {n:Int} (h:(Lit.int .i64 n).wf=true):n<=9223372036854775807:=by
 have h2:(decide (IntKind.i64.min<=n) && decide (n<=IntKind.i64.max))=true:=h
 rw[Bool.and_eq_true] at h2
 exact of_decide_eq_true h2.2
theorem ZbP {H:Type} {enc:TypeId×Value->H} {W:World} {sp:Nat->Bool} {held:Bool} {m:Nat} {x:DataW H×List MemPlace} {t:TypeId} {f0 f1 f2 f3 f4:Field} {cs:List Value} (hs:prog.underlying t=some (.struct #[f0,f1,f2,f3,f4])) (hC:prog.cellsOf t=5) (o0:f0.offset=0) (o1:f1.offset=1) (o2:f2.offset=2) (o3:f3.offset=3) (o4:f4.offset=4) (t0:f0.type=3) (t1:f1.type=4) (t2:f2.type=34) (t3:f3.type=9) (t4:f4.type=3) (h:DataW.trod enc prog W 0 sp held m t cs=some x):(∃u:VV,cs=u.cs/\u.x<2^64)/\6<=Rows.uptoBulk x.1:=by
 obtain⟨xs,n,_,hx,hl,hlen,hf⟩:=DataW.trod_struct hs h
 rw[hC] at hl
 have hlen2:xs.length=5:=hlen
 clear h hlen
 have h0:=hf 0 f0 rfl
 have h1:=hf 1 f1 rfl
 have h2:=hf 2 f2 rfl
 have h3:=hf 3 f3 rfl
 have h4:=hf 4 f4 rfl
 clear hf
 match xs,hlen2 with
 | [y0,y1,y2,y3,y4],_=>
  match cs,hl with
  |c0::c1::c2::c3::c4:: [],_=>
   rw[t0,o0,Jk] at h0
   rw[t1,o1,ZcF] at h1
   rw[t2,o2,Ze4] at h2
   rw[t3,o3,Zao] at h3
   rw[t4,o4,Jk] at h4
   replace h0:DataW.trod enc prog W 0 sp held n 3 (c0:: [])=some y0:=h0
   replace h1:DataW.trod enc prog W 0 sp held n 4 (c1:: [])=some y1:=h1
   replace h2:DataW.trod enc prog W 0 sp held n 34 (c2:: [])=some y2:=h2
   replace h3:DataW.trod enc prog W 0 sp held n 9 (c3:: [])=some y3:=h3
   replace h4:DataW.trod enc prog W 0 sp held n 3 (c4:: [])=some y4:=h4
   subst hx
   have hbk:Rows.uptoBulk (H:=H) (.agg [y0.1,y1.1,y2.1,y3.1,y4.1])=Rows.uptoBulk y0.1+Rows.uptoBulk y1.1+Rows.uptoBulk y2.1+Rows.uptoBulk y3.1+Rows.uptoBulk y4.1+1:=by simp only[Rows.uptoBulk,Rows.uptoBulkAll];omega
   have p0:=Bw y0.1
   have p1:=Bw y1.1
   have p2:=Bw y2.1
   have p3:=Bw y3.1
   have p4:=Bw y4.1
   simp only[List.map_cons,List.map_nil]
   rw[hbk]
   obtain⟨k,rfl, -⟩:=Ey underlying3 h0
   obtain⟨b,rfl⟩:=ZaZ underlying4 h1
   obtain⟨f,rfl,wf⟩:=Zdv underlying34 h2
   obtain⟨s,rfl, -⟩:=Pu underlying9 h3
   obtain⟨i,rfl, -⟩:=Ey underlying3 h4
   exact⟨⟨⟨k,b,f,s,i⟩,rfl,wf⟩,by omega⟩
theorem Je {H:Type} {enc:TypeId×Value->H} {W:World} {sp:Nat->Bool} {held:Bool} {m:Nat} {x:DataW H×List MemPlace} {cs:List Value} (h:DataW.trod enc prog W 0 sp held m 36 cs=some x):(∃u:VV,cs=u.cs/\u.x<2^64)/\6<=Rows.uptoBulk x.1:=ZbP underlying36 Jw rfl rfl rfl rfl rfl rfl rfl rfl rfl rfl h
theorem Zds {H:Type} {enc:TypeId×Value->H} {W:World} {sp:Nat->Bool} {held:Bool} {m:Nat} {x:DataW H×List MemPlace} {t:TypeId} {f0 f1:Field} {cs:List Value} (hs:prog.underlying t=some (.struct #[f0,f1])) (hC:prog.cellsOf t=2) (o0:f0.offset=0) (o1:f1.offset=1) (t0:f0.type=9) (t1:f1.type=3) (h:DataW.trod enc prog W 0 sp held m t cs=some x):(∃u:KK,cs=u.cs/\OkK u)/\3<=Rows.uptoBulk x.1:=by
 obtain⟨xs,n,_,hx,hl,hlen,hf⟩:=DataW.trod_struct hs h
 rw[hC] at hl
 have hlen2:xs.length=2:=hlen
 clear h hlen
 have h0:=hf 0 f0 rfl
 have h1:=hf 1 f1 rfl
 clear hf
 match xs,hlen2 with
 | [y0,y1],_=>
  match cs,hl with
  |c0::c1:: [],_=>
   rw[t0,o0,Zao] at h0
   rw[t1,o1,Jk] at h1
   replace h0:DataW.trod enc prog W 0 sp held n 9 (c0:: [])=some y0:=h0
   replace h1:DataW.trod enc prog W 0 sp held n 3 (c1:: [])=some y1:=h1
   subst hx
   have hbk:Rows.uptoBulk (H:=H) (.agg [y0.1,y1.1])=Rows.uptoBulk y0.1+Rows.uptoBulk y1.1+1:=by simp only[Rows.uptoBulk,Rows.uptoBulkAll];omega
   have p0:=Bw y0.1
   have p1:=Bw y1.1
   simp only[List.map_cons,List.map_nil]
   rw[hbk]
   obtain⟨s,rfl,hs1⟩:=Pu underlying9 h0
   obtain⟨n,rfl,hn1⟩:=Ey underlying3 h1
   exact⟨⟨⟨s,n⟩,rfl,hs1,hn1⟩,by omega⟩
theorem ZaU {H:Type} {enc:TypeId×Value->H} {W:World} {sp:Nat->Bool} {held:Bool} {m:Nat} {x:DataW H×List MemPlace} {cs:List Value} (h:DataW.trod enc prog W 0 sp held m 48 cs=some x):(∃u:KK,cs=u.cs/\OkK u)/\3<=Rows.uptoBulk x.1:=Zds underlying48 Vt rfl rfl rfl rfl h
theorem ZcE {H:Type} {enc:TypeId×Value->H} {W:World} {sp:Nat->Bool} {held:Bool} {m:Nat} {x:DataW H×List MemPlace} {t:TypeId} {f0 f1 f2 f3 f4 f5:Field} {cs:List Value} (hs:prog.underlying t=some (.struct #[f0,f1,f2,f3,f4,f5])) (hC:prog.cellsOf t=18) (o0:f0.offset=0) (o1:f1.offset=5) (o2:f2.offset=10) (o3:f3.offset=15) (o4:f4.offset=16) (o5:f5.offset=17) (t0:f0.type=36) (t1:f1.type=36) (t2:f2.type=36) (t3:f3.type=37) (t4:f4.type=37) (t5:f5.type=37) (h:DataW.trod enc prog W 0 sp held m t cs=some x):(∃u:DD,cs=u.cs/\FD u)/\22<=Rows.uptoBulk x.1:=by
 obtain⟨xs,n,_,hx,hl,hlen,hf⟩:=DataW.trod_struct hs h
 rw[hC] at hl
 have hlen2:xs.length=6:=hlen
 clear h hlen
 have h0:=hf 0 f0 rfl
 have h1:=hf 1 f1 rfl
 have h2:=hf 2 f2 rfl
 have h3:=hf 3 f3 rfl
 have h4:=hf 4 f4 rfl
 have h5:=hf 5 f5 rfl
 clear hf
 match xs,hlen2 with
 | [y0,y1,y2,y3,y4,y5],_=>
  match cs,hl with
  |c0::c1::c2::c3::c4::c5::c6::c7::c8::c9::c10::c11::c12::c13::c14::c15::c16::c17:: [],_=>
   rw[t0,o0,Jw] at h0
   rw[t1,o1,Jw] at h1
   rw[t2,o2,Jw] at h2
   rw[t3,o3,Vv] at h3
   rw[t4,o4,Vv] at h4
   rw[t5,o5,Vv] at h5
   replace h0:DataW.trod enc prog W 0 sp held n 36 (c0::c1::c2::c3::c4:: [])=some y0:=h0
   replace h1:DataW.trod enc prog W 0 sp held n 36 (c5::c6::c7::c8::c9:: [])=some y1:=h1
   replace h2:DataW.trod enc prog W 0 sp held n 36 (c10::c11::c12::c13::c14:: [])=some y2:=h2
   replace h3:DataW.trod enc prog W 0 sp held n 37 (c15:: [])=some y3:=h3
   replace h4:DataW.trod enc prog W 0 sp held n 37 (c16:: [])=some y4:=h4
   replace h5:DataW.trod enc prog W 0 sp held n 37 (c17:: [])=some y5:=h5
   subst hx
   have hbk:Rows.uptoBulk (H:=H) (.agg [y0.1,y1.1,y2.1,y3.1,y4.1,y5.1])=Rows.uptoBulk y0.1+Rows.uptoBulk y1.1+Rows.uptoBulk y2.1+Rows.uptoBulk y3.1+Rows.uptoBulk y4.1+Rows.uptoBulk y5.1+1:=by simp only[Rows.uptoBulk,Rows.uptoBulkAll];omega
   have p0:=Bw y0.1
   have p1:=Bw y1.1
   have p2:=Bw y2.1
   have p3:=Bw y3.1
   have p4:=Bw y4.1
   have p5:=Bw y5.1
   simp only[List.map_cons,List.map_nil]
   rw[hbk]
   obtain⟨⟨v,q0,x0⟩,bb0⟩:=Je h0
   simp only[VV.cs,List.cons.injEq] at q0
   obtain⟨rfl,rfl,rfl,rfl,rfl, -⟩:=q0
   obtain⟨⟨g,q1,x1⟩,bb1⟩:=Je h1
   simp only[VV.cs,List.cons.injEq] at q1
   obtain⟨rfl,rfl,rfl,rfl,rfl, -⟩:=q1
   obtain⟨⟨s,q2,x2⟩,bb2⟩:=Je h2
   simp only[VV.cs,List.cons.injEq] at q2
   obtain⟨rfl,rfl,rfl,rfl,rfl, -⟩:=q2
   obtain⟨a,rfl, -⟩:=Ey underlying37 h3
   obtain⟨e,rfl, -⟩:=Ey underlying37 h4
   obtain⟨c,rfl, -⟩:=Ey underlying37 h5
   exact⟨⟨⟨v,g,s,a,e,c⟩,rfl,x0,x1,x2⟩,by omega⟩
theorem Zan {H:Type} {enc:TypeId×Value->H} {W:World} {sp:Nat->Bool} {held:Bool} {m:Nat} {x:DataW H×List MemPlace} {cs:List Value} (h:DataW.trod enc prog W 0 sp held m 39 cs=some x):(∃u:DD,cs=u.cs/\FD u)/\22<=Rows.uptoBulk x.1:=ZcE underlying39 Vu rfl rfl rfl rfl rfl rfl rfl rfl rfl rfl rfl rfl h
theorem ZcD {H:Type} {enc:TypeId×Value->H} {W:World} {sp:Nat->Bool} {held:Bool} {m:Nat} {x:DataW H×List MemPlace} {t:TypeId} {f0 f1:Field} {cs:List Value} (hs:prog.underlying t=some (.struct #[f0,f1])) (hC:prog.cellsOf t=20) (o0:f0.offset=0) (o1:f1.offset=2) (t0:f0.type=48) (t1:f1.type=39) (h:DataW.trod enc prog W 0 sp held m t cs=some x):(∃u:KK×DD,(FD u.2/\OkK u.1)/\cs=prC u)/\26<=Rows.uptoBulk x.1:=by
 obtain⟨xs,n,_,hx,hl,hlen,hf⟩:=DataW.trod_struct hs h
 rw[hC] at hl
 have hlen2:xs.length=2:=hlen
 clear h hlen
 have h0:=hf 0 f0 rfl
 have h1:=hf 1 f1 rfl
 clear hf
 match xs,hlen2 with
 | [y0,y1],_=>
  match cs,hl with
  |c0::c1::c2::c3::c4::c5::c6::c7::c8::c9::c10::c11::c12::c13::c14::c15::c16::c17::c18::c19:: [],_=>
   rw[t0,o0,Vt] at h0
   rw[t1,o1,Vu] at h1
   replace h0:DataW.trod enc prog W 0 sp held n 48 (c0::c1:: [])=some y0:=h0
   replace h1:DataW.trod enc prog W 0 sp held n 39 (c2::c3::c4::c5::c6::c7::c8::c9::c10::c11::c12::c13::c14::c15::c16::c17::c18::c19:: [])=some y1:=h1
   subst hx
   have hbk:Rows.uptoBulk (H:=H) (.agg [y0.1,y1.1])=Rows.uptoBulk y0.1+Rows.uptoBulk y1.1+1:=by simp only[Rows.uptoBulk,Rows.uptoBulkAll];omega
   have p0:=Bw y0.1
   have p1:=Bw y1.1
   simp only[List.map_cons,List.map_nil]
   rw[hbk]
   obtain⟨⟨k,q0,k1⟩,bb0⟩:=ZaU h0
   obtain⟨⟨d,q1,d1⟩,bb1⟩:=Zan h1
   refine⟨⟨(k,d),⟨d1,k1⟩, ?_⟩,by omega⟩
   show [c0,c1,c2,c3,c4,c5,c6,c7,c8,c9,c10,c11,c12,c13,c14,c15,c16,c17,c18,c19]=k.cs++d.cs
   rw[←q0,←q1]
   rfl
theorem Zdr {H:Type} {enc:TypeId×Value->H} {W:World} {sp:Nat->Bool} {held:Bool} {m:Nat} {x:DataW H×List MemPlace} {cs:List Value} (h:DataW.trod enc prog W 0 sp held m 69 cs=some x):(∃u:KK×DD,(FD u.2/\OkK u.1)/\cs=prC u)/\26<=Rows.uptoBulk x.1:=ZcD underlying69 ZaV rfl rfl rfl rfl h
theorem ZaM (b o i:Nat):(Addr.add ⟨b,o,none⟩ i)=⟨b,o+i,none⟩:=by
 unfold Addr.add
 by_cases h:i=0
 ·subst h;simp
 ·simp[h]
theorem Zes {w:World} {b o:Nat} {sp:Option Nat} {v:Value} (h:w.cell? ⟨b,o,sp⟩=some v):sp=none/\b<w.heap.size:=by
 constructor
 ·cases sp with
  |none=>rfl
  |some s=>
   simp only[World.cell?] at h
   split at h<;>simp at h
 ·rcases Nat.lt_or_ge b w.heap.size with h'|h'
  ·exact h'
  ·simp[World.cell?,Array.getElem?_eq_none h'] at h
theorem rows_of {α:Type} {f:α->List Value} {k:Nat} (hk: ∀a,(f a).length=k) (h0:0<k) {Pr:α->Prop} {W:World} {a:Addr} {n:Nat} (each: ∀i,i<n-> ∃u:α,Pr u/\W.cells? 0 (a.add (i * k)) k=some (f u)):
  ∃l:List α,l.length=n/\ ∀(j:Nat) (u:α),l[j]? =some u->Pr u/\ ∃b off,a=⟨b,off,none⟩/\b<W.heap.size/\W.rangeAt b (off+j * k) (f u):=by
 have mk: ∀q,q<=n-> ∃l:List α,l.length=q/\ ∀(i:Nat) (u:α),l[i]? =some u->Pr u/\W.cells? 0 (a.add (i * k)) k=some (f u):=by
  intro q
  induction q with
  |zero=>exact fun _=>⟨[],rfl,fun i u hu=>by simp at hu⟩
  |succ q ih=>
   intro hq
   obtain⟨l,hl,hl2⟩:=ih (by omega)
   obtain⟨u,hu2⟩:=each q (by omega)
   refine⟨l++ [u],by simp[hl],fun i u' hu'=> ?_⟩
   rcases Nat.lt_or_ge i l.length with h1|h1
   ·rw[List.getElem?_append_left h1] at hu'
    exact hl2 i u' hu'
   ·rw[List.getElem?_append_right h1] at hu'
    have h3:=(List.getElem?_eq_some_iff.1 hu').1
    have h4:i=q:=by simp at h3;omega
    subst h4
    rw[hl,Nat.sub_self] at hu'
    obtain rfl:u=u':=by simpa using hu'
    exact hu2
 obtain⟨l,hll,hlc⟩:=mk n (Nat.le_refl _)
 refine⟨l,hll,fun j u hu=>⟨(hlc j u hu).1, ?_⟩⟩
 have h1:=(World.cells?_some (hlc j u hu).2).2.2
 obtain⟨b,off,sp⟩:=a
 have hl0:0<l.length:=Nat.lt_of_le_of_lt (Nat.zero_le _) (List.getElem?_eq_some_iff.1 hu).1
 have h00:=(World.cells?_some (hlc 0 l[0] (List.getElem?_eq_getElem hl0)).2).2.2 0 h0
 have e0:(Addr.add (Addr.add ⟨b,off,sp⟩ (0 * k)) 0)=⟨b,off,sp⟩:=by simp[Addr.add]
 have hlen:0<(f l[0]).length:=by rw[hk];exact h0
 rw[e0,List.getElem?_eq_getElem hlen] at h00
 obtain⟨rfl,hb⟩:=Zes h00
 refine⟨b,off,rfl,hb,fun t v hv=> ?_⟩
 have ht:t<k:=by
  have:=(List.getElem?_eq_some_iff.1 hv).1
  rwa [hk] at this
 have h2:=h1 t ht
 rw[ZaM,ZaM] at h2
 rw[h2]
 exact hv
theorem Zc6 {H:Type} {enc:TypeId×Value->H} {W:World} {sp:Nat->Bool} {held:Bool} {m:Nat} {x:DataW H×List MemPlace} {α:Type} {f:α->List Value} {k kb B:Nat} (hk: ∀a,(f a).length=k) (h0:0<k) {Pr:α->Prop} {t e:TypeId} (ht:prog.underlying t=some (.slice e)) (hce:prog.cellsOf e=k)
  (each: ∀(n:Nat) (cs:List Value) (y:DataW H×List MemPlace),DataW.trod enc prog W 0 sp held n e cs=some y->Rows.uptoBulk y.1<=B->(∃u:α,Pr u/\cs=f u)/\kb<=Rows.uptoBulk y.1)
  {c:Value} (h:DataW.trod enc prog W 0 sp held m t [c]=some x) (hB:Rows.uptoBulk x.1<=B):
  ∃(A:Option Addr) (cap:Nat) (l:List α),c= .slice A l.length cap/\(A=none->l.length=0/\cap=0)/\ReadsG f k W A l/\(∀u∈l,Pr u)/\kb * l.length<=Rows.uptoBulk x.1:=by
 rcases Go.Deep.open_slice ht h with ⟨hcs,hx⟩|⟨a,len,cap,m',k',D,Pl,hcs, -,hl,hm,hme,hx,hel⟩
 ·obtain rfl:=List.singleton_inj.1 hcs
  exact⟨none,0, [],rfl,fun _=>⟨rfl,rfl⟩,fun j u hj=>by simp at hj,fun u hu=>by simp at hu,by simp⟩
 ·obtain rfl:=List.singleton_inj.1 hcs
  subst hx
  have hlm:len<=m':=by rw[hme];split<;>omega
  have hbs:Rows.uptoBulkAll ((List.range len).map D)+1<=Rows.uptoBulk (H:=H) (.slice ((List.range len).map D) ((List.range (m' - len)).map fun j=>D (len+j))):=by
   rw[Rows.uptoBulk]
   omega
  have hB2:Rows.uptoBulk (H:=H) (.slice ((List.range len).map D) ((List.range (m' - len)).map fun j=>D (len+j)))<=B:=hB
  have hbi: ∀i,i<len->Rows.uptoBulk (D i)<=B:=fun i hi=>by
   have:=Xm (List.mem_map_of_mem (f:=D) (List.mem_range.2 hi))
   omega
  rw[hce] at hel
  have each': ∀i,i<len-> ∃u:α,Pr u/\W.cells? 0 (a.add (i * k)) k=some (f u):=fun i hi=>by
   obtain⟨cs',h1,h2⟩:=hel i (by omega)
   obtain⟨⟨u,hu,rfl⟩, -⟩:=each _ _ _ h2 (hbi i hi)
   exact⟨u,hu,h1⟩
  obtain⟨l,hll,hl2⟩:=rows_of hk h0 each'
  refine⟨some a,cap,l,by rw[hll],(fun h=>by cases h),fun j u hj=> ?_,fun u hu=> ?_, ?_⟩
  ·obtain⟨-,b,off,rfl,hb,hr⟩:=hl2 j u hj
   exact⟨b,off,rfl,hb,hr⟩
  ·obtain⟨j,hj⟩:=List.getElem?_of_mem hu
   exact(hl2 j u hj).1
  ·have h9:kb * ((List.range len).map D).length<=Rows.uptoBulkAll ((List.range len).map D):=Xn (fun d hd=>by
    obtain⟨i,hi,rfl⟩:=List.mem_map.1 hd
    obtain⟨cs', -,h2⟩:=hel i (by have:=List.mem_range.1 hi;omega)
    exact(each _ _ _ h2 (hbi i (List.mem_range.1 hi))).2)
   rw[List.length_map,List.length_range] at h9
   rw[hll]
   show kb * len<=Rows.uptoBulk (H:=H) (.slice _ _)
   omega
structure AKR where
 M:Int
 o:Int
 T:Int
 k:KK
 v:VV
 r:VV
 d:DD
 A:Option Addr
 c:Nat
 l:List VV
def AKR.cs (a:AKR):List Value:=Jc a.M a.o a.T a.k a.v a.r a.d (.slice a.A a.l.length a.c)
def AKR.Ok (a:AKR) (W:World):Prop:=OkK a.k/\a.v.x<2^64/\a.r.x<2^64/\FD a.d/\a.l.length<=1000000/\(∀v∈a.l,v.x<2^64)/\(a.A=none->a.l.length=0/\a.c=0)/\Gt W a.A a.l
theorem Zdt {H:Type} {enc:TypeId×Value->H} {W:World} {sp:Nat->Bool} {held:Bool} {m:Nat} {x:DataW H×List MemPlace} {t:TypeId} {f0 f1 f2 f3 f4 f5 f6 f7:Field} {cs:List Value} (hs:prog.underlying t=some (.struct #[f0,f1,f2,f3,f4,f5,f6,f7])) (hC:prog.cellsOf t=34) (o0:f0.offset=0) (o1:f1.offset=1) (o2:f2.offset=2) (o3:f3.offset=3) (o4:f4.offset=5) (o5:f5.offset=10) (o6:f6.offset=15) (o7:f7.offset=33) (t0:f0.type=3) (t1:f1.type=3) (t2:f2.type=3) (t3:f3.type=48) (t4:f4.type=36) (t5:f5.type=36) (t6:f6.type=39) (t7:f7.type=41) (hB:Rows.uptoBulk x.1<=1048576) (h:DataW.trod enc prog W 0 sp held m t cs=some x): ∃u:AKR,cs=u.cs/\u.Ok W:=by
 obtain⟨xs,n,_,hx,hl,hlen,hf⟩:=DataW.trod_struct hs h
 rw[hC] at hl
 have hlen2:xs.length=8:=hlen
 clear h hlen
 have h0:=hf 0 f0 rfl
 have h1:=hf 1 f1 rfl
 have h2:=hf 2 f2 rfl
 have h3:=hf 3 f3 rfl
 have h4:=hf 4 f4 rfl
 have h5:=hf 5 f5 rfl
 have h6:=hf 6 f6 rfl
 have h7:=hf 7 f7 rfl
 clear hf
 match xs,hlen2 with
 | [y0,y1,y2,y3,y4,y5,y6,y7],_=>
  match cs,hl with
  |c0::c1::c2::c3::c4::c5::c6::c7::c8::c9::c10::c11::c12::c13::c14::c15::c16::c17::c18::c19::c20::c21::c22::c23::c24::c25::c26::c27::c28::c29::c30::c31::c32::c33:: [],_=>
   rw[t0,o0,Jk] at h0
   rw[t1,o1,Jk] at h1
   rw[t2,o2,Jk] at h2
   rw[t3,o3,Vt] at h3
   rw[t4,o4,Jw] at h4
   rw[t5,o5,Jw] at h5
   rw[t6,o6,Vu] at h6
   rw[t7,o7,ZaY] at h7
   replace h0:DataW.trod enc prog W 0 sp held n 3 (c0:: [])=some y0:=h0
   replace h1:DataW.trod enc prog W 0 sp held n 3 (c1:: [])=some y1:=h1
   replace h2:DataW.trod enc prog W 0 sp held n 3 (c2:: [])=some y2:=h2
   replace h3:DataW.trod enc prog W 0 sp held n 48 (c3::c4:: [])=some y3:=h3
   replace h4:DataW.trod enc prog W 0 sp held n 36 (c5::c6::c7::c8::c9:: [])=some y4:=h4
   replace h5:DataW.trod enc prog W 0 sp held n 36 (c10::c11::c12::c13::c14:: [])=some y5:=h5
   replace h6:DataW.trod enc prog W 0 sp held n 39 (c15::c16::c17::c18::c19::c20::c21::c22::c23::c24::c25::c26::c27::c28::c29::c30::c31::c32:: [])=some y6:=h6
   replace h7:DataW.trod enc prog W 0 sp held n 41 (c33:: [])=some y7:=h7
   subst hx
   have hbk:Rows.uptoBulk (H:=H) (.agg [y0.1,y1.1,y2.1,y3.1,y4.1,y5.1,y6.1,y7.1])=Rows.uptoBulk y0.1+Rows.uptoBulk y1.1+Rows.uptoBulk y2.1+Rows.uptoBulk y3.1+Rows.uptoBulk y4.1+Rows.uptoBulk y5.1+Rows.uptoBulk y6.1+Rows.uptoBulk y7.1+1:=by simp only[Rows.uptoBulk,Rows.uptoBulkAll];omega
   have p0:=Bw y0.1
   have p1:=Bw y1.1
   have p2:=Bw y2.1
   have p3:=Bw y3.1
   have p4:=Bw y4.1
   have p5:=Bw y5.1
   have p6:=Bw y6.1
   have p7:=Bw y7.1
   simp only[List.map_cons,List.map_nil] at hB
   rw[hbk] at hB
   obtain⟨M,rfl, -⟩:=Ey underlying3 h0
   obtain⟨o,rfl, -⟩:=Ey underlying3 h1
   obtain⟨T,rfl, -⟩:=Ey underlying3 h2
   obtain⟨⟨k,q3,k1⟩, -⟩:=ZaU h3
   obtain⟨⟨v,q4,x4⟩, -⟩:=Je h4
   obtain⟨⟨r,q5,x5⟩, -⟩:=Je h5
   obtain⟨⟨d,q6,d1⟩, -⟩:=Zan h6
   obtain⟨A,c,l,rfl,hA,hR,hp,hn⟩:=Zc6 (f:=VV.cs) (k:=5) (kb:=6) (Pr:=fun v:VV=>v.x<2^64) (B:=1048576) (fun _=>rfl) (by omega) underlying41 Jw (fun n cs y h hb=>by obtain⟨⟨u,e,hx⟩,h6⟩:=Je h;exact⟨⟨u,hx,e⟩,h6⟩) h7 (by omega)
   refine⟨⟨M,o,T,k,v,r,d,A,c,l⟩, ?_,k1,x4,x5,d1,by show l.length<=1000000;omega,hp,hA,hR⟩
   show _= [Value.int .i64 M, .int .i64 o, .int .i64 T]++k.cs++v.cs++r.cs++d.cs++ [_]
   rw[←q3,←q4,←q5,←q6]
   rfl
theorem ZeU {H:Type} {enc:TypeId×Value->H} {W:World} {sp:Nat->Bool} {held:Bool} {m:Nat} {x:DataW H×List MemPlace} {cs:List Value} (hB:Rows.uptoBulk x.1<=1048576) (h:DataW.trod enc prog W 0 sp held m 50 cs=some x): ∃u:AKR,cs=u.cs/\u.Ok W:=Zdt underlying50 ZaX rfl rfl rfl rfl rfl rfl rfl rfl rfl rfl rfl rfl rfl rfl rfl rfl hB h
theorem Zdu {H:Type} {enc:TypeId×Value->H} {W:World} {sp:Nat->Bool} {held:Bool} {m:Nat} {x:DataW H×List MemPlace} {t:TypeId} {f0 f1 f2 f3 f4 f5 f6 f7 f8 f9 f10 f11 f12 f13 f14 f15:Field} {cs:List Value} (hs:prog.underlying t=some (.struct #[f0,f1,f2,f3,f4,f5,f6,f7,f8,f9,f10,f11,f12,f13,f14,f15])) (hC:prog.cellsOf t=59) (o0:f0.offset=0) (o1:f1.offset=1) (o2:f2.offset=35) (o3:f3.offset=40) (o4:f4.offset=41) (o5:f5.offset=42) (o6:f6.offset=43) (o7:f7.offset=44) (o8:f8.offset=45) (o9:f9.offset=46) (o10:f10.offset=47) (o11:f11.offset=48) (o12:f12.offset=49) (o13:f13.offset=54) (o14:f14.offset=57) (o15:f15.offset=58) (t0:f0.type=3) (t1:f1.type=50) (t2:f2.type=36) (t3:f3.type=3) (t4:f4.type=51) (t5:f5.type=4) (t6:f6.type=41) (t7:f7.type=40) (t8:f8.type=9) (t9:f9.type=52) (t10:f10.type=53) (t11:f11.type=54) (t12:f12.type=36) (t13:f13.type=55) (t14:f14.type=56) (t15:f15.type=57) (hB:Rows.uptoBulk x.1<=1048576) (h:DataW.trod enc prog W 0 sp held m t cs=some x):(∃u:AT,(u.Ok/\u.ds.length<=43800/\u.Reads W)/\cs=actC u)/\17<=Rows.uptoBulk x.1:=by
 obtain⟨xs,n,_,hx,hl,hlen,hf⟩:=DataW.trod_struct hs h
 rw[hC] at hl
 have hlen2:xs.length=16:=hlen
 clear h hlen
 have h0:=hf 0 f0 rfl
 have h1:=hf 1 f1 rfl
 have h2:=hf 2 f2 rfl
 have h3:=hf 3 f3 rfl
 have h4:=hf 4 f4 rfl
 have h5:=hf 5 f5 rfl
 have h6:=hf 6 f6 rfl
 have h7:=hf 7 f7 rfl
 have h8:=hf 8 f8 rfl
 have h9:=hf 9 f9 rfl
 have h10:=hf 10 f10 rfl
 have h11:=hf 11 f11 rfl
 have h12:=hf 12 f12 rfl
 have h13:=hf 13 f13 rfl
 have h14:=hf 14 f14 rfl
 have h15:=hf 15 f15 rfl
 clear hf
 match xs,hlen2 with
 | [y0,y1,y2,y3,y4,y5,y6,y7,y8,y9,y10,y11,y12,y13,y14,y15],_=>
  match cs,hl with
  |c0::c1::c2::c3::c4::c5::c6::c7::c8::c9::c10::c11::c12::c13::c14::c15::c16::c17::c18::c19::c20::c21::c22::c23::c24::c25::c26::c27::c28::c29::c30::c31::c32::c33::c34::c35::c36::c37::c38::c39::c40::c41::c42::c43::c44::c45::c46::c47::c48::c49::c50::c51::c52::c53::c54::c55::c56::c57::c58:: [],_=>
   rw[t0,o0,Jk] at h0
   rw[t1,o1,ZaX] at h1
   rw[t2,o2,Jw] at h2
   rw[t3,o3,Jk] at h3
   rw[t4,o4,Ze2] at h4
   rw[t5,o5,ZcF] at h5
   rw[t6,o6,ZaY] at h6
   rw[t7,o7,Ze3] at h7
   rw[t8,o8,Zao] at h8
   rw[t9,o9,Ze1] at h9
   rw[t10,o10,Ze0] at h10
   rw[t11,o11,ZeZ] at h11
   rw[t12,o12,Jw] at h12
   rw[t13,o13,ZeY] at h13
   rw[t14,o14,ZeX] at h14
   rw[t15,o15,ZeW] at h15
   replace h0:DataW.trod enc prog W 0 sp held n 3 (c0:: [])=some y0:=h0
   replace h1:DataW.trod enc prog W 0 sp held n 50 (c1::c2::c3::c4::c5::c6::c7::c8::c9::c10::c11::c12::c13::c14::c15::c16::c17::c18::c19::c20::c21::c22::c23::c24::c25::c26::c27::c28::c29::c30::c31::c32::c33::c34:: [])=some y1:=h1
   replace h2:DataW.trod enc prog W 0 sp held n 36 (c35::c36::c37::c38::c39:: [])=some y2:=h2
   replace h3:DataW.trod enc prog W 0 sp held n 3 (c40:: [])=some y3:=h3
   replace h4:DataW.trod enc prog W 0 sp held n 51 (c41:: [])=some y4:=h4
   replace h5:DataW.trod enc prog W 0 sp held n 4 (c42:: [])=some y5:=h5
   replace h6:DataW.trod enc prog W 0 sp held n 41 (c43:: [])=some y6:=h6
   replace h7:DataW.trod enc prog W 0 sp held n 40 (c44:: [])=some y7:=h7
   replace h8:DataW.trod enc prog W 0 sp held n 9 (c45:: [])=some y8:=h8
   replace h9:DataW.trod enc prog W 0 sp held n 52 (c46:: [])=some y9:=h9
   replace h10:DataW.trod enc prog W 0 sp held n 53 (c47:: [])=some y10:=h10
   replace h11:DataW.trod enc prog W 0 sp held n 54 (c48:: [])=some y11:=h11
   replace h12:DataW.trod enc prog W 0 sp held n 36 (c49::c50::c51::c52::c53:: [])=some y12:=h12
   replace h13:DataW.trod enc prog W 0 sp held n 55 (c54::c55::c56:: [])=some y13:=h13
   replace h14:DataW.trod enc prog W 0 sp held n 56 (c57:: [])=some y14:=h14
   replace h15:DataW.trod enc prog W 0 sp held n 57 (c58:: [])=some y15:=h15
   subst hx
   have hbk:Rows.uptoBulk (H:=H) (.agg [y0.1,y1.1,y2.1,y3.1,y4.1,y5.1,y6.1,y7.1,y8.1,y9.1,y10.1,y11.1,y12.1,y13.1,y14.1,y15.1])=Rows.uptoBulk y0.1+Rows.uptoBulk y1.1+Rows.uptoBulk y2.1+Rows.uptoBulk y3.1+Rows.uptoBulk y4.1+Rows.uptoBulk y5.1+Rows.uptoBulk y6.1+Rows.uptoBulk y7.1+Rows.uptoBulk y8.1+Rows.uptoBulk y9.1+Rows.uptoBulk y10.1+Rows.uptoBulk y11.1+Rows.uptoBulk y12.1+Rows.uptoBulk y13.1+Rows.uptoBulk y14.1+Rows.uptoBulk y15.1+1:=by simp only[Rows.uptoBulk,Rows.uptoBulkAll];omega
   have p0:=Bw y0.1
   have p1:=Bw y1.1
   have p2:=Bw y2.1
   have p3:=Bw y3.1
   have p4:=Bw y4.1
   have p5:=Bw y5.1
   have p6:=Bw y6.1
   have p7:=Bw y7.1
   have p8:=Bw y8.1
   have p9:=Bw y9.1
   have p10:=Bw y10.1
   have p11:=Bw y11.1
   have p12:=Bw y12.1
   have p13:=Bw y13.1
   have p14:=Bw y14.1
   have p15:=Bw y15.1
   simp only[List.map_cons,List.map_nil] at hB ⊢
   rw[hbk] at hB ⊢
   obtain⟨W0,rfl, -⟩:=Ey underlying3 h0
   obtain⟨a,q1,ak⟩:=ZeU (by omega) h1
   obtain⟨⟨p,q2,x2⟩, -⟩:=Je h2
   obtain⟨nn,rfl,wn⟩:=Ey underlying3 h3
   have z41:=Kh underlying51 h4
   obtain⟨b5,rfl⟩:=ZaZ underlying4 h5
   have z43:=Kh underlying41 h6
   have z44:=Kh underlying40 h7
   obtain⟨s8,rfl, -⟩:=Pu underlying9 h8
   obtain⟨DA,Dc,ds,rfl,hDA,hDR,hDp,hDn⟩:=Zc6 (f:=prC) (k:=20) (kb:=26) (Pr:=fun u:KK×DD=>FD u.2/\OkK u.1) (B:=1048576) (fun _=>rfl) (by omega) underlying52 ZaV (fun n cs y h hb=>Zdr h) h9 (by omega)
   have z47:=Kh underlying53 h10
   have z48:=Kh underlying54 h11
   obtain⟨⟨v12,q12,x12⟩, -⟩:=Je h12
   obtain⟨w0,w1,w2,n9, -,k0,k1,k2⟩:=trod_array3 underlying55 Jk h13
   obtain⟨m0,rfl, -⟩:=Ey underlying3 k0
   obtain⟨m1,rfl, -⟩:=Ey underlying3 k1
   obtain⟨m2,rfl, -⟩:=Ey underlying3 k2
   have z57:=Kh underlying56 h14
   have z58:=Kh underlying57 h15
   simp only[VV.cs,List.cons.injEq] at q12
   obtain⟨rfl,rfl,rfl,rfl,rfl, -⟩:=q12
   obtain⟨t,ht⟩: ∃t:AT,t=⟨W0,a.M,a.o,a.T,a.k,a.v,a.r,a.d,a.A,a.c,a.l,p,nn,DA,Dc,ds,c41, .bool b5,c43,c44, .string s8,c47,c48, .int .i64 v12.k, .bool v12.b, .float .f64 v12.x, .string v12.s, .int .i64 v12.i, .int .i64 m0, .int .i64 m1, .int .i64 m2,c57,c58⟩:=⟨_,rfl⟩
   refine⟨⟨t, ?_, ?_⟩,by omega⟩
   ·subst ht
    obtain⟨a1,a2,a3,a4,a5,a6,a7,a8⟩:=ak
    refine⟨⟨a1,a2,a3,a4,a5,a6,a7,x2,ZdW wn,hDA,fun e he=>(hDp e he).1,fun e he=>(hDp e he).2, ?_⟩,by show ds.length<=43800;omega,a8,hDR⟩
    intro u hu
    simp only[actC,Jc,VV.cs,KK.cs,DD.cs,List.cons_append,List.nil_append,List.mem_cons,List.not_mem_nil,or_false] at hu
    rcases hu with rfl|rfl|rfl|rfl|rfl|rfl|rfl|rfl|rfl|rfl|rfl|rfl|rfl|rfl|rfl|rfl|rfl|rfl|rfl|rfl|rfl|rfl|rfl|rfl|rfl|rfl|rfl|rfl|rfl|rfl|rfl|rfl|rfl|rfl|rfl|rfl|rfl|rfl|rfl|rfl|rfl|rfl|rfl|rfl|rfl|rfl|rfl|rfl|rfl|rfl|rfl|rfl|rfl|rfl|rfl|rfl|rfl|rfl|rfl<;>first|rfl|assumption
   ·rw[ht]
    show _= [Value.int .i64 W0]++a.cs++p.cs++ [_,_,_,_,_,_,_,_,_,_,_,_,_,_,_,_,_,_,_]
    rw[←q1,←q2]
    rfl
theorem ZeV {H:Type} {enc:TypeId×Value->H} {W:World} {sp:Nat->Bool} {held:Bool} {m:Nat} {x:DataW H×List MemPlace} {cs:List Value} (hB:Rows.uptoBulk x.1<=1048576) (h:DataW.trod enc prog W 0 sp held m 59 cs=some x):(∃u:AT,(u.Ok/\u.ds.length<=43800/\u.Reads W)/\cs=actC u)/\17<=Rows.uptoBulk x.1:=Zdu underlying59 ZaW rfl rfl rfl rfl rfl rfl rfl rfl rfl rfl rfl rfl rfl rfl rfl rfl rfl rfl rfl rfl rfl rfl rfl rfl rfl rfl rfl rfl rfl rfl rfl rfl hB h
theorem ZbO {H:Type} {enc:TypeId×Value->H} {W:World} {sp:Nat->Bool} {held:Bool} {m:Nat} {x:DataW H×List MemPlace} {t:TypeId} {f0 f1 f2 f3:Field} {cs:List Value} (hs:prog.underlying t=some (.struct #[f0,f1,f2,f3])) (hC:prog.cellsOf t=4) (o0:f0.offset=0) (o1:f1.offset=1) (o2:f2.offset=2) (o3:f3.offset=3) (t0:f0.type=3) (t1:f1.type=3) (t2:f2.type=3) (t3:f3.type=22) (hB:Rows.uptoBulk x.1<=1048576) (h:DataW.trod enc prog W 0 sp held m t cs=some x): ∃(c f d:Int) (A:Option Addr) (cp:Nat) (ts:List AT),cs=Nw c f d (.slice A ts.length cp)/\f<=9223372036854775807/\ts.length<=1000000/\ReadsG actC 59 W A ts/\ ∀u∈ts,u.Ok/\u.ds.length<=43800/\u.Reads W:=by
 obtain⟨xs,n,_,hx,hl,hlen,hf⟩:=DataW.trod_struct hs h
 rw[hC] at hl
 have hlen2:xs.length=4:=hlen
 clear h hlen
 have h0:=hf 0 f0 rfl
 have h1:=hf 1 f1 rfl
 have h2:=hf 2 f2 rfl
 have h3:=hf 3 f3 rfl
 clear hf
 match xs,hlen2 with
 | [y0,y1,y2,y3],_=>
  match cs,hl with
  |c0::c1::c2::c3:: [],_=>
   rw[t0,o0,Jk] at h0
   rw[t1,o1,Jk] at h1
   rw[t2,o2,Jk] at h2
   rw[t3,o3,Ze6] at h3
   replace h0:DataW.trod enc prog W 0 sp held n 3 (c0:: [])=some y0:=h0
   replace h1:DataW.trod enc prog W 0 sp held n 3 (c1:: [])=some y1:=h1
   replace h2:DataW.trod enc prog W 0 sp held n 3 (c2:: [])=some y2:=h2
   replace h3:DataW.trod enc prog W 0 sp held n 22 (c3:: [])=some y3:=h3
   subst hx
   have hbk:Rows.uptoBulk (H:=H) (.agg [y0.1,y1.1,y2.1,y3.1])=Rows.uptoBulk y0.1+Rows.uptoBulk y1.1+Rows.uptoBulk y2.1+Rows.uptoBulk y3.1+1:=by simp only[Rows.uptoBulk,Rows.uptoBulkAll];omega
   have p0:=Bw y0.1
   have p1:=Bw y1.1
   have p2:=Bw y2.1
   have p3:=Bw y3.1
   simp only[List.map_cons,List.map_nil] at hB
   rw[hbk] at hB
   obtain⟨c,rfl, -⟩:=Ey underlying3 h0
   obtain⟨f,rfl,wf⟩:=Ey underlying3 h1
   obtain⟨d,rfl, -⟩:=Ey underlying3 h2
   obtain⟨A,cp,ts,rfl,hA,hR,hp,hn⟩:=Zc6 (f:=actC) (k:=59) (kb:=17) (Pr:=fun u:AT=>u.Ok/\u.ds.length<=43800/\u.Reads W) (B:=1048576) Zat (by omega) underlying22 ZaW (fun n cs y h hb=>ZeV hb h) h3 (by omega)
   exact⟨c,f,d,A,cp,ts,rfl,ZdW wf,by omega,hR,hp⟩
theorem ZcC {H:Type} {enc:TypeId×Value->H} {W:World} {sp:Nat->Bool} {held:Bool} {m:Nat} {x:DataW H×List MemPlace} {cs:List Value} (hB:Rows.uptoBulk x.1<=1048576) (h:DataW.trod enc prog W 0 sp held m 24 cs=some x): ∃(c f d:Int) (A:Option Addr) (cp:Nat) (ts:List AT),cs=Nw c f d (.slice A ts.length cp)/\f<=9223372036854775807/\ts.length<=1000000/\ReadsG actC 59 W A ts/\ ∀u∈ts,u.Ok/\u.ds.length<=43800/\u.Reads W:=ZbO underlying24 Ze5 rfl rfl rfl rfl rfl rfl rfl rfl hB h
