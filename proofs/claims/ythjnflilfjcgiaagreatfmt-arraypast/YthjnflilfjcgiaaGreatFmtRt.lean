import Derived.Test.YthjnflilfjcgiaaGreatFmtRs
set_option linter.all false
namespace Go.Proofs.YthjnflilfjcgiaaGreatFmt
set_option maxRecDepth 100000
set_option maxHeartbeats 0
section
open Go Go.Proofs Go.Maps Go.RowKit FM
attribute [local go_sem] Ad Ag Ak Df Bi Ae Bg
open Ieee
attribute [local go_sem] Eg Ea Gi
theorem z_div (c:Nat):0 / 2^c=0:=Nat.zero_div _
theorem wh_zero:wh 0=0:=by unfold wh;rw[vl0];exact z_div 1074
theorem wh_gen {a k c:Nat} (h:a<=k * 2^c):a / 2^c<=k:=by
 have:=Nat.div_le_div_right (c:=2^c) h
 rw[div_up k c] at this
 exact this
theorem wh_le {a k:Nat} (hk:k<2^32) (h:a<=nf k):wh a<=k:=by
 obtain⟨r,e,_,hv⟩:=Um hk
 rw[e] at h
 have h1:vl a<=vl r:=by
  rcases Nat.lt_or_ge r a with h2|h2
  ·omega
  ·rcases Nat.lt_or_ge (vl r) (vl a) with h3|h3
   ·have:=Jw.1 h3;omega
   ·exact h3
 rw[hv] at h1
 unfold wh
 exact wh_gen (c:=1074) h1
theorem fu_any {x:Nat} (hn:isN x=false) (h0:0<=pl x) (h1:pl x<=(nf 4294967295:Int)): ∃m:Nat,m<2^32/\(FloatKind.f64.decode x).toInt .zero=some (m:Int):=by
 have hm:=Jz (k:=4294967295) (by decide)
 have e:FloatKind.f64.decode x=double.read x:=rfl
 cases hg:ng x
 ·have hp:pl x=(sz x:Int):=by unfold pl;rw[hg];rfl
  rw[hp] at h1
  have hle:sz x<=nf 4294967295:=by omega
  have hI:sz x<INF:=by have:=hm.2.2.2.1;rw[hm.2.1] at this;omega
  have hw:=wh_le (k:=4294967295) (by decide) hle
  refine⟨wh (sz x),by omega, ?_⟩
  rw[e,Qf _ hI,hg]
  rfl
 ·have hp:pl x= -(sz x:Int):=by unfold pl;rw[hg];rfl
  rw[hp] at h0
  have hz:sz x=0:=by omega
  refine⟨0,by decide, ?_⟩
  rw[e,Qf _ (by rw[hz];decide),hz,wh_zero,hg]
  rfl
theorem Kk {o:Oper} {a:Act} {w:World} {x:Operand} {b m:Nat} (h:m<2^32) (ht:(FloatKind.f64.decode b).toInt .zero=some (m:Int)) (ho:o.op= .convert 33 44 x) (hx:a.eval x= .float .f64 b):(execOp a.eval o).run Tryz.prog w= .ok (.value (.int .u32 (m:Nat))) w:=by
 unfold execOp
 simp only[ho,hx]
 simp[go_sem,convert,Conv.floatToInt,ht]
 intro h'
 have e1:IntKind.u32.min=0:=rfl
 have e2:IntKind.u32.max=4294967295:=rfl
 rw[e1,e2] at h'
 have:=h' (by omega)
 omega
theorem El {o:Oper} {a:Act} {w:World} {x:Operand} {b c:Nat} {q:Bool} (h:(FloatKind.f64.format.order b c==some .gt||FloatKind.f64.format.order b c==some .eq)=q) (ho:o.op= .binOp .geq 33 x (.const (.float .f64 c)) 33) (hx:a.eval x= .float .f64 b):(execOp a.eval o).run Tryz.prog w= .ok (.value (.bool q)) w:=by
 subst h
 unfold execOp
 simp only[ho,hx]
 simp[go_sem,eqGuard]
