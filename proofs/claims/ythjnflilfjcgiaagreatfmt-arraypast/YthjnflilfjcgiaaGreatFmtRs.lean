import Derived.Test.YthjnflilfjcgiaaGreatFmtRq
import Derived.Test.YthjnflilfjcgiaaGreatFmtRr
set_option linter.all false
namespace Go.Proofs.YthjnflilfjcgiaaGreatFmt
set_option maxRecDepth 100000
set_option maxHeartbeats 0
section
open Go Go.Proofs Go.Maps Go.RowKit FM Tryz
attribute [local go_sem] Ad Ag Ak Df Bi Ae Bg
attribute [local go_sem] Eg Ea Gi
def prC (e:KK×DD):List Value:=e.1.cs++e.2.cs
theorem Zb9 (e:KK×DD): ∀u∈prC e,u.oneCell'=true:=by simp[prC,KK.cs,DD.cs,VV.cs,Value.oneCell']
def Xq:KK×DD:=(⟨ByteArray.empty,0⟩,Ap)
theorem Zb8 (e:KK×DD):Dp (prC Xq) 0 (prC e)=prC e:=by simp[Dp,prC,Xq,KK.cs,DD.cs,VV.cs]
def ReadsP (w:World) (A:Option Addr) (l:List (KK×DD)):Prop:= ∀(j:Nat) (p:KK×DD),l[j]? =some p-> ∃b off,A=some ⟨b,off,none⟩/\b<w.heap.size/\w.rangeAt b (off+j * 20) (prC p)
theorem ex_eq0 {o:Oper} {a:Act} {w:World} {x y:Operand} {j:Nat} (hj:j<2) (ho:o.op= .binOp .eql 42 x y 42) (hx:a.eval x= .agg (De j).cs.toArray) (hy:a.eval y=Bm.agg):(execOp a.eval o).run prog w= .ok (.value (.bool false)) w:=by
 unfold execOp
 simp only[ho,hx,hy]
 obtain rfl|rfl:j=0∨j=1:=by omega
 ·kernel_rfl
 ·kernel_rfl
theorem ex_gtM {o:Oper} {a:Act} {w:World} {x:Operand} {b:Nat} (h:FloatKind.f64.format.order b 4751297606873776128≠some Ordering.gt) (ho:o.op= .binOp .gtr 33 x (.const (.float .f64 4751297606873776128)) 33) (hx:a.eval x= .float .f64 b):(execOp a.eval o).run prog w= .ok (.value (.bool false)) w:=by
 unfold execOp
 simp only[ho,hx]
 simp[go_sem,eqGuard,h]
theorem ZbS {o:Oper} {a:Act} {W:World} {x:Operand} {B p p0:Nat} {cs:List Value} {v:Value} (t:TypeId) (q:Nat) (hna: ∀w,(isAgg t).run prog w= .ok false w) (ho:o.op= .load t x) (hx:a.eval x= .pointer (some ⟨B,p,none⟩)) (h0:W.rangeAt B p0 cs) (hp:p0+q=p) (hv:cs[q]? =some v):(execOp a.eval o).run prog W= .ok (.value v) W:=by
 have h:=h0 q v hv
 rw[hp] at h
 unfold execOp
 simp only[ho,hx]
 simp[go_sem,h,hna]
theorem right_sz {j:Nat} (h:j<2):(De j).s.size<4611686018427387904:=by
 obtain rfl|rfl:j=0∨j=1:=by omega
 ·decide+kernel
 ·decide+kernel
theorem ex_geF {o:Oper} {a:Act} {w:World} {x y:Operand} {i k:Nat} (hi:i<2^32) (hk:k<2^32) (h:i<k) (ho:o.op= .binOp .geq 33 x y 33) (hx:a.eval x= .float .f64 (nf i)) (hy:a.eval y= .float .f64 (nf k)):(execOp a.eval o).run prog w= .ok (.value (.bool false)) w:=by
 have ho2:=Un hi hk
 rw[Nat.compare_eq_lt.2 h] at ho2
 unfold execOp
 simp only[ho,hx,hy]
 simp[go_sem,eqGuard,ho2]
theorem ZaD {k i:Nat} {l:List (Nat×DD)} {e:KK×DD} (hi: ¬i=0) (h:(arrG k l)[i]? =some e): ∃j d,e=(De j,d)/\(j,d)∈l:=by
 obtain⟨m,rfl⟩: ∃m,i=m+1:=⟨i - 1,by omega⟩
 unfold arrG at h
 rw[List.getElem?_cons_succ,List.getElem?_map] at h
 cases hm:l[m]? with
 |none=>rw[hm] at h;simp at h
 |some x=>rw[hm] at h;simp at h;exact⟨x.1,x.2,h.symm,List.mem_of_getElem? hm⟩
theorem Jd (k:Nat) (hk:k<2^32) (l:List (Nat×DD)) (h2: ∀e∈l,e.1<2) (hlk: ∀e∈l,e.1<k) (s:PO) (A:Option Addr) (c:Nat) (w:World) (hR:ReadsP w A (arrG k l)) (hz:(arrG k l).length<=1000):Calls prog 22 #[.agg (shC s (.slice A (arrG k l).length c)).toArray] w fun e w'=>e= .returned (.bool true)/\Below w.heap.size w w':=by
 have SS:=Ab (Sy.nil w [])
 have HR:=Ab hR
 have HZ:=Ab hz
 clear hR hz
 go_enter func22,ntmps22
 go_wp2_with (first|go_skip|((with_reducible show wpList ..);first|(refine zB 63 (shC s (.slice A (arrG k l).length c)) (by rfl) rfl rfl rfl SS ?_;clear SS;intro Xa Ba SS;simp only[nn])))
 go_loopg [3,4] (arrG k l).length (fun gm s3 s4 wr=> ∃i:Nat,s4= .int .i64 (i:Nat)/\s3= .float .f64 (if i=0 then 13830554455654793216 else nf k)/\i<=(arrG k l).length/\(arrG k l).length - i<=gm/\Hid (Sy w wr [] [Am Ba (shC s (.slice A (arrG k l).length c))]))
 case atStart=>exact⟨0,rfl,rfl,by omega,by omega,SS⟩
 case round=>
  clear SS
  obtain⟨i,rfl,rfl,hil,hgm,SS⟩:=hrel
  by_cases hlt:i<(arrG k l).length
  ·have dlt:decide ((i:Int)<((arrG k l).length:Int))=true:=decide_eq_true (by omega)
   have hw1:IntKind.i64.wrap ((i:Int)+1)=(i:Int)+1:=by have:=Aa HZ;rw[IntKind.wrap_i64];omega
   obtain⟨e,hv⟩: ∃e,(arrG k l)[i]? =some e:=⟨_,List.getElem?_eq_getElem hlt⟩
   obtain⟨b,off,hA,hb,hrg⟩:=(Aa HR) i e hv
   subst hA
   have HA2:Hid (∀X,Below w.heap.size w X->X.rangeAt b (off+i * 20) (prC e)):=Ab (fun X hX=>Kx hrg hb hX)
   have HLT:=Ab hlt
   clear hb hrg hlt hil
   by_cases hi0:i=0
   ·have HE:Hid (e=(Bm,Jb k)):=Ab (by rw[hi0] at hv;exact(Option.some.inj hv).symm)
    rw[if_pos hi0]
    clear hv hi0
    go_wp2_with (first|go_skip|((with_reducible show wpList ..);first|(refine z1 61 isAgg61 0 (by rfl) rfl rfl SS rfl rfl ?_;simp only[nn])|(refine rd rfl (Bp 61 106 underlying61 rfl rfl) ?_)|(refine rd rfl (Ed 61 20 i unPs idPs rfl rfl rfl (Aa HLT)) ?_)|(refine rd rfl (Gx (vs:=prC e) 106 20 rwP szP rfl rfl (Aa HA2 _ (Aa SS).fr.below) rfl) ?_)|(refine zA 106 (prC Xq) (by rfl) rfl SS ?_;clear SS;intro X3 B3 SS;simp only[nn])|((refine stS (vs:=prC e) 1 106 (by rfl) rfl rfl rfl rfl (Zb9 _) szP (Aa SS) rfl (by simp[Dp,prC,Xq,KK.cs,DD.cs,VV.cs]) ?_);intro X4 S4 hf4 hs4;replace SS:=Ab S4;clear S4 hf4 hs4;simp only[nn])))
    have hq0:=Aa SS
    simp only[List.nil_append,List.set_cons_zero,List.set_cons_succ,List.cons_append,Zb8] at hq0
    obtain rfl:=Aa HE
    have hS6:Sy w _ [] [Am Ba (shC s (.slice (some ⟨b,off,none⟩) (arrG k l).length c)),Am B3 (prC (Bm,Jb k))]:=hq0.drew
    clear SS hq0
    refine wp_region_held_drew (P:=prog) (S:=fun X=>Sy w X [] _) (by kernel_rfl) (hS6) (fun hS0=> ?_)
    refine gp 0 (some 22) (.pointer (some ⟨B3,0,none⟩)) rfl rfl (hS6) ?_
    refine gq 1 (some 23) (.agg Bm.cs.toArray) rfl rfl (fun X hX=>Aj (vs:=Bm.cs) 42 2 rwK szK rfl rfl (hX.hold 1 rfl) rfl rfl) (hS6) ?_
    refine gr (rs:= [2]) (gcB 2 (some 24) rfl rfl hS6 (Ln _) id ?_ gn)
    intro Yt1 hqt1
    refine gq 3 (some 25) (.bool true) rfl rfl (fun X hX=>Zad rfl rfl rfl) (hqt1) ?_
    refine wpAnyH_done (by kernel_rfl) ?_ _
    try simp only[nn]
    have SS:=Ab hqt1
    go_wp2_with (first|go_skip|((with_reducible show wpList ..);first|(refine zL ((Jb k).cs) 53 18 1 rwD szD (by rfl) rfl rfl SS rfl rfl rfl ?_;simp only[nn])|(refine zA 53 (Ap.cs) (by rfl) rfl SS ?_;clear SS;intro X6 B6 SS;simp only[nn])|(refine zS ((Jb k).cs) 2 53 (by rfl) rfl rfl rfl rfl (Jy _) szD SS rfl ?_;clear SS;intro X7 SS;simp only[nn])|(refine z1 3 isAgg3 2 (by rfl) rfl rfl SS rfl rfl ?_;simp only[nn])|(refine z1 51 isAgg51 2 (by rfl) rfl rfl SS rfl rfl ?_;simp only[nn])|(refine z1 33 isAgg33 2 (by rfl) rfl rfl SS rfl rfl ?_;simp only[nn])|(refine rd rfl (Ki (Zcf hk) rfl rfl) ?_)|(refine rd rfl (ex_gtM (nf_ngt hk) rfl rfl) ?_)|(refine rd rfl (ex_fu hk rfl rfl) ?_)|(refine rd rfl (Ev rfl rfl) ?_)|(refine rd rfl (ex_neS (ZbF hk) rfl rfl rfl) ?_)))
    replace SS:=Ab (Sy.left (L:= [_]) (M:= [_,_]) (Aa SS))
    go_roundg ((arrG k l).length - (i+1))
    case measure=>have:=Aa HLT;omega
    case rel=>exact⟨i+1,by go_num,by rw[if_neg (by omega)]<;>rfl,by have:=Aa HLT;omega,by omega,SS⟩
   ·obtain⟨j,d,he,hj⟩: ∃j d,e=(De j,d)/\(j,d)∈l:=ZaD hi0 hv
    have HE:=Ab he
    have HJ:=Ab (h2 _ hj)
    rw[if_neg hi0]
    clear hv he hj hi0
    go_wp2_with (first|go_skip|((with_reducible show wpList ..);first|(refine z1 61 isAgg61 0 (by rfl) rfl rfl SS rfl rfl ?_;simp only[nn])|(refine rd rfl (Bp 61 106 underlying61 rfl rfl) ?_)|(refine rd rfl (Ed 61 20 i unPs idPs rfl rfl rfl (Aa HLT)) ?_)|(refine rd rfl (Gx (vs:=prC e) 106 20 rwP szP rfl rfl (Aa HA2 _ (Aa SS).fr.below) rfl) ?_)|(refine zA 106 (prC Xq) (by rfl) rfl SS ?_;clear SS;intro X3 B3 SS;simp only[nn])|((refine stS (vs:=prC e) 1 106 (by rfl) rfl rfl rfl rfl (Zb9 _) szP (Aa SS) rfl (by simp[Dp,prC,Xq,KK.cs,DD.cs,VV.cs]) ?_);intro X4 S4 hf4 hs4;replace SS:=Ab S4;clear S4 hf4 hs4;simp only[nn])))
    have hq0:=Aa SS
    simp only[List.nil_append,List.set_cons_zero,List.set_cons_succ,List.cons_append,Zb8] at hq0
    obtain rfl:=Aa HE
    have hS6:Sy w _ [] [Am Ba (shC s (.slice (some ⟨b,off,none⟩) (arrG k l).length c)),Am B3 (prC ((De j),d))]:=hq0.drew
    clear SS hq0
    refine wp_region_held_drew (P:=prog) (S:=fun X=>Sy w X [] _) (by kernel_rfl) (hS6) (fun hS0=> ?_)
    refine gp 0 (some 22) (.pointer (some ⟨B3,0,none⟩)) rfl rfl (hS6) ?_
    refine gq 1 (some 23) (.agg (De j).cs.toArray) rfl rfl (fun X hX=>Aj (vs:=(De j).cs) 42 2 rwK szK rfl rfl (hX.hold 1 rfl) rfl rfl) (hS6) ?_
    refine gr (rs:= [2]) (gcB 2 (some 24) rfl rfl hS6 (Ln _) id ?_ gn)
    intro Yt1 hqt1
    refine gq 3 (some 25) (.bool false) rfl rfl (fun X hX=>ex_eq0 (Aa HJ) rfl rfl rfl) (hqt1) ?_
    refine wpAnyH_done (by kernel_rfl) ?_ _
    try simp only[nn]
    have SS:=Ab hqt1
    go_wp2
    replace SS:=Ab (Sy.left (L:= [_]) (M:= [_]) (Aa SS))
    go_roundg ((arrG k l).length - (i+1))
    case measure=>have:=Aa HLT;omega
    case rel=>exact⟨i+1,by go_num,by rw[if_neg (by omega)]<;>rfl,by have:=Aa HLT;omega,by omega,SS⟩
  ·obtain rfl:i=(arrG k l).length:=by omega
   rw[if_neg (show ¬(arrG k l).length=0 by unfold arrG;simp)]
   clear hlt hil hgm
   go_wp2_with (first|go_skip|((with_reducible show wpList ..);first|(refine z1 61 isAgg61 0 (by rfl) rfl rfl SS rfl rfl ?_;simp only[nn])|(refine rd rfl (Bp 61 106 underlying61 rfl rfl) ?_)|(refine rd rfl (Ki (Zcf hk) rfl rfl) ?_)))
   go_loopg [7] (arrG k l).length (fun gm s7 wr=> ∃i:Nat,s7= .int .i64 (i:Nat)/\i<=(arrG k l).length/\(arrG k l).length - i<=gm/\Hid (Sy w wr [] [Am Ba (shC s (.slice A (arrG k l).length c))]))
   case atStart=>exact⟨0,rfl,by omega,by omega,SS⟩
   case round=>
    clear SS
    obtain⟨i,rfl,hil,hgm,SS⟩:=hrel
    by_cases hlt:i<(arrG k l).length
    ·have dlt:decide ((i:Int)<((arrG k l).length:Int))=true:=decide_eq_true (by omega)
     have hw1:IntKind.i64.wrap ((i:Int)+1)=(i:Int)+1:=by have:=Aa HZ;rw[IntKind.wrap_i64];omega
     obtain⟨e,hv⟩: ∃e,(arrG k l)[i]? =some e:=⟨_,List.getElem?_eq_getElem hlt⟩
     obtain⟨b,off,hA,hb,hrg⟩:=(Aa HR) i e hv
     subst hA
     have HA2:Hid (∀X,Below w.heap.size w X->X.rangeAt b (off+i * 20) (prC e)):=Ab (fun X hX=>Kx hrg hb hX)
     have HLT:=Ab hlt
     clear hb hrg hlt hil
     by_cases hi0:i=0
     ·obtain rfl:(Bm,Jb k)=e:=by rw[hi0] at hv;exact Option.some.inj hv
      clear hv hi0
      go_wp2_with (first|go_skip|((with_reducible show wpList ..);first|(refine z1 61 isAgg61 0 (by rfl) rfl rfl SS rfl rfl ?_;simp only[nn])|(refine rd rfl (Bp 61 106 underlying61 rfl rfl) ?_)|(refine rd rfl (Ed 61 20 i unPs idPs rfl rfl rfl (Aa HLT)) ?_)|(refine rd rfl (ZbS (v:= .string Bm.s) 9 0 isAgg9 rfl rfl (Aa HA2 _ (Aa SS).fr.below) rfl rfl) ?_)))
      refine(Nv Bm.s (by decide) _).mono ?_
      rintro _ _ ⟨rfl,rfl⟩
      rw[show Lu (Dn Bm.s)=none by kernel_rfl]
      simp only[Option.getD_none,Option.isSome_none]
      go_wp2
      go_roundg ((arrG k l).length - (i+1))
      case measure=>have:=Aa HLT;omega
      case rel=>exact⟨i+1,by go_num,by have:=Aa HLT;omega,by omega,SS⟩
     ·obtain⟨j,d,rfl,hj⟩: ∃j d,e=(De j,d)/\(j,d)∈l:=ZaD hi0 hv
      have HJ:=Ab (h2 _ hj)
      have HJK:=Ab (hlk _ hj)
      have HJ3:Hid (j<2^32):=Ab (by have h9:j<2:=Aa HJ;omega)
      clear hv hj hi0
      go_wp2_with (first|go_skip|((with_reducible show wpList ..);first|(refine z1 61 isAgg61 0 (by rfl) rfl rfl SS rfl rfl ?_;simp only[nn])|(refine rd rfl (Bp 61 106 underlying61 rfl rfl) ?_)|(refine rd rfl (Ed 61 20 i unPs idPs rfl rfl rfl (Aa HLT)) ?_)|(refine rd rfl (ZbS (v:= .string (De j).s) 9 0 isAgg9 rfl rfl (Aa HA2 _ (Aa SS).fr.below) rfl rfl) ?_)))
      refine(Nv (De j).s (right_sz (Aa HJ)) _).mono ?_
      rintro _ _ ⟨rfl,rfl⟩
      rw[Ux (i:=j) (by have h9:j<2:=Aa HJ;omega)]
      simp only[Option.getD_some,Option.isSome_some]
      go_wp2_with (first|go_skip|((with_reducible show wpList ..);first|(refine z1 61 isAgg61 0 (by rfl) rfl rfl SS rfl rfl ?_;simp only[nn])|(refine rd rfl (Bp 61 106 underlying61 rfl rfl) ?_)|(refine rd rfl (Ed 61 20 i unPs idPs rfl rfl rfl (Aa HLT)) ?_)|(refine rd rfl (ZbS (v:= .int .i64 0) 3 1 isAgg3 rfl rfl (Aa HA2 _ (Aa SS).fr.below) rfl rfl) ?_)|(refine rd rfl (Ev rfl rfl) ?_)|(refine rd rfl (ex_geF (Aa HJ3) hk (Aa HJK) rfl rfl rfl) ?_)))
      go_roundg ((arrG k l).length - (i+1))
      case measure=>have:=Aa HLT;omega
      case rel=>exact⟨i+1,by go_num,by have:=Aa HLT;omega,by omega,SS⟩
    ·obtain rfl:i=(arrG k l).length:=by omega
     go_wp2_with (first|go_skip|((with_reducible show wpList ..);first|(refine z1 61 isAgg61 0 (by rfl) rfl rfl SS rfl rfl ?_;simp only[nn])|(refine rd rfl (Bp 61 106 underlying61 rfl rfl) ?_)))
     go_ret
     exact⟨rfl,(Aa SS).fr.below⟩
