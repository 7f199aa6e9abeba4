import Derived.Test.YthjnflilfjcgiaaGreatFmtRp
set_option linter.all false
namespace Go.Proofs.YthjnflilfjcgiaaGreatFmt
set_option maxRecDepth 100000
set_option maxHeartbeats 0
section
open Go Go.Proofs Go.Maps Go.RowKit FM
attribute [local go_sem] Ad Ag Ak Df Bi Ae Bg
open Ieee
attribute [local go_sem] Eg Ea Gi
theorem ZbD (i k c:Nat):i * 2^c<k * 2^c↔i<k:=⟨fun h=>Nat.lt_of_mul_lt_mul_right h,fun h=>ZbJ h c⟩
theorem Yg {i k:Nat} (hi:i<2^32) (hk:k<2^32):nf i<nf k↔i<k:=by
 obtain⟨r,e,_,hv⟩:=Um hi
 obtain⟨r2,e2,_,hv2⟩:=Um hk
 rw[e,e2,←Jw,hv,hv2]
 exact ZbD i k 1074
theorem pl_nf {k:Nat} (h:k<2^32):pl (nf k)=(nf k:Int):=by
 have:=pl_sz (nf k)
 rw[(Jz h).2.1] at this
 exact this
theorem Un {i k:Nat} (hi:i<2^32) (hk:k<2^32):FloatKind.f64.format.order (nf i) (nf k)=some (compare i k):=by
 show double.order (nf i) (nf k)=_
 rw[Gw,Ru hi,Ru hk,pl_nf hi,pl_nf hk]
 simp only[Bool.or_self,Bool.false_eq_true,if_false]
 have h1:=Yg hi hk
 have h2:=Yg hk hi
 congr 1
 rcases Nat.lt_trichotomy i k with h|h|h
 ·rw[Nat.compare_eq_lt.2 h]
  have:=h1.2 h
  simp[compare,compareOfLessAndEq];omega
 ·subst h
  simp
 ·rw[Nat.compare_eq_gt.2 h]
  have:=h2.2 h
  exact Int.compare_eq_gt.2 (by omega)
theorem Zcf {k:Nat} (h:k<2^32):FloatKind.f64.format.order (nf k) 0≠some Ordering.lt:=by
 have:=Un h (show 0<2^32 by decide)
 rw[nf_z] at this
 rw[this]
 simp[Nat.compare_eq_lt]
theorem nf_ngt {k:Nat} (h:k<2^32):FloatKind.f64.format.order (nf k) 4751297606873776128≠some Ordering.gt:=by
 have:=Un h (show 4294967295<2^32 by decide)
 rw[ZaQ] at this
 rw[this]
 simp[Nat.compare_eq_gt];omega
theorem ex_fu {o:Oper} {a:Act} {w:World} {x:Operand} {k:Nat} (h:k<2^32) (ho:o.op= .convert 33 44 x) (hx:a.eval x= .float .f64 (nf k)):(execOp a.eval o).run Tryz.prog w= .ok (.value (.int .u32 (k:Nat))) w:=by
 have ht:=Ul h
 unfold execOp
 simp only[ho,hx]
 simp[go_sem,convert,Conv.floatToInt,ht]
 intro h'
 have e1:IntKind.u32.min=0:=rfl
 have e2:IntKind.u32.max=4294967295:=rfl
 rw[e1,e2] at h'
 have:=h' (by omega)
 omega
