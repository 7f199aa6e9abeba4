import Derived.Test.YtfefpbjkbmaicaaGreatDoorQh
import Derived.Test.YtfefpbjkbmaicaaGreatDoorQg
set_option linter.all false
namespace Go.Proofs.YtfefpbjkbmaicaaGreatDoor
set_option maxRecDepth 100000
set_option maxHeartbeats 0
section
open Go.RowKit FM
attribute [local go_sem] Gx Dt
theorem Lw (x:Nat) (hx:x<2^64):(FloatKind.f64.format.order x 0==some .eq)=(decide (x=0)||decide (x=9223372036854775808)):=by
 rw[eq_order x 0 hx (by decide)]
 unfold Za2 ZaM Kw
 have e1:isN 0=false:=by decide+kernel
 have e2:sz 0=0:=by decide+kernel
 rw[e1,e2]
 by_cases h:sz x=0
 ·rw[sz0_nan h]
  unfold sz at h
  have:x=0∨x=9223372036854775808:=by omega
  rcases this with rfl|rfl<;>simp[sz]
 ·have h1: ¬x=0:=by rintro rfl;exact h e2
  have h2: ¬x=9223372036854775808:=by rintro rfl;exact h (by decide+kernel)
  simp[h,h1,h2]
def mnV (x:Nat):Bool:=decide (x=9223372036854775808)
theorem Rc (w:World):(binOp .quo 24 (.float .f64 4607182418800017408) (.float .f64 0)).run Tryz.prog w= .ok (.float .f64 9218868437227405312) w:=by kernel_rfl
theorem Xw (w:World):(binOp .quo 24 (.float .f64 4607182418800017408) (.float .f64 9223372036854775808)).run Tryz.prog w= .ok (.float .f64 18442240474082181120) w:=by kernel_rfl
theorem o_00:(FloatKind.f64.format.order 0 0==some .eq)=true:=by decide+kernel
theorem o_m0:(FloatKind.f64.format.order 9223372036854775808 0==some .eq)=true:=by decide+kernel
theorem o_i0:(FloatKind.f64.format.order 9218868437227405312 0==some .lt)=false:=by decide+kernel
theorem o_n0:(FloatKind.f64.format.order 18442240474082181120 0==some .lt)=true:=by decide+kernel
theorem Zcf (x:Nat) (hx:x<2^64) (w:World):Calls Tryz.prog 85 #[.float .f64 x] w fun e w'=>e= .returned (.bool (mnV x))/\w'=w:=by
 have h0:=Lw x hx
 by_cases h1:x=0
 ·subst h1
  clear h0 hx
  have a1:=o_00
  have a2:=o_i0
  have a3:=Rc
  go_enter Tryz.func85,Tryz.ntmps85
  go_wp2
  go_ret
  exact⟨rfl,rfl⟩
 ·by_cases h2:x=9223372036854775808
  ·subst h2
   clear h0 hx h1
   have a1:=o_m0
   have a2:=o_n0
   have a3:=Xw
   go_enter Tryz.func85,Tryz.ntmps85
   go_wp2
   go_ret
   exact⟨rfl,rfl⟩
  ·have h3:(FloatKind.f64.format.order x 0==some .eq)=false:=by rw[h0];simp[h1,h2]
   go_enter Tryz.func85,Tryz.ntmps85
   go_wp2
   go_ret
   exact⟨by simp[mnV,h2],rfl⟩
theorem good_out (k:Int) (b:Bool) (x:Nat) (s:ByteArray) (i:Int) (hk:k<1∨7<k) (w:World):
  Calls Tryz.prog 70 #[.agg #[.int .i64 k, .bool b, .float .f64 x, .string s, .int .i64 i]] w fun e w'=>e= .returned (.bool (Ef k b x s i))/\Below w.heap.size w w':=by
 have hg:Ef k b x s i=false:=by
  unfold Ef inG
  have h1:(k==1)=false:=by rw[beq_eq_false_iff_ne];omega
  have h2:(k==2)=false:=by rw[beq_eq_false_iff_ne];omega
  have h3:(k==3)=false:=by rw[beq_eq_false_iff_ne];omega
  have h4:(k==4)=false:=by rw[beq_eq_false_iff_ne];omega
  have h5:(k==5)=false:=by rw[beq_eq_false_iff_ne];omega
  have h6:(k==6)=false:=by rw[beq_eq_false_iff_ne];omega
  have h7:(k==7)=false:=by rw[beq_eq_false_iff_ne];omega
  rw[h1,h2,h3,h4,h5,h6,h7]
  simp
 rw[hg]
 clear hg
 by_cases h1:k<1
 ·clear hk
  go_enter Tryz.func70,Tryz.ntmps70
  go_wp2
  go_ret
  exact⟨rfl,(Below.refl _ _).alloc (Nat.le_refl _) _⟩
 ·have h7:7<k:=by omega
  clear hk
  go_enter Tryz.func70,Tryz.ntmps70
  go_wp2
  go_ret
  exact⟨rfl,(Below.refl _ _).alloc (Nat.le_refl _) _⟩
theorem good_x (k:Int) (hk:k=1∨k=2∨k=3∨k=6∨k=7) (b:Bool) (s:ByteArray) (i:Int) (w:World):
  Calls Tryz.prog 70 #[.agg #[.int .i64 k, .bool b, .float .f64 0, .string s, .int .i64 i]] w fun e w'=>e= .returned (.bool (Ef k b 0 s i))/\Below w.heap.size w w':=by
 have a1:=o_00
 have a2:=o_i0
 have a3:=Rc
 unfold Ef
 generalize Nf s=ft
 rcases hk with rfl|rfl|rfl|rfl|rfl
 all_goals
  cases b
  all_goals
   go_enter Tryz.func70,Tryz.ntmps70
   go_wp2
   all_goals
    go_ret
    refine⟨?_,(Below.refl _ _).alloc (Nat.le_refl _) _⟩
    simp[inG,Lx, *]
    try omega
