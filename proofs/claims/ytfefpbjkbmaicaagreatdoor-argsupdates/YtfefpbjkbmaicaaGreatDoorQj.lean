import Derived.Test.YtfefpbjkbmaicaaGreatDoorQi
set_option linter.all false
namespace Go.Proofs.YtfefpbjkbmaicaaGreatDoor
set_option maxRecDepth 100000
set_option maxHeartbeats 0
section
open Go.RowKit FM
attribute [local go_sem] Gx Dt
theorem good_4 (b:Bool) (x:Nat) (s:ByteArray) (i:Int) (w:World):
  Calls Tryz.prog 70 #[.agg #[.int .i64 4, .bool b, .float .f64 x, .string s, .int .i64 i]] w fun e w'=>e= .returned (.bool (Ef 4 b x s i))/\Below w.heap.size w w':=by
 unfold Ef
 generalize Nf s=ft
 cases b
 all_goals
  go_enter Tryz.func70,Tryz.ntmps70
  go_wp2
  all_goals
   go_ret
   refine⟨?_,(Below.refl _ _).alloc (Nat.le_refl _) _⟩
   simp[inG,Lx, *]
theorem strV_x {k:Int} {b:Bool} {x:Nat} {s:ByteArray} {i:Int} (hk:k≠4) (hx:x≠0):Ef k b x s i=false:=by
 unfold Ef inG Lx
 simp[hk,hx]
theorem good_m (k:Int) (hk:k=1∨k=2∨k=3∨k=5∨k=6∨k=7) (b:Bool) (s:ByteArray) (i:Int) (w:World):
  Calls Tryz.prog 70 #[.agg #[.int .i64 k, .bool b, .float .f64 9223372036854775808, .string s, .int .i64 i]] w fun e w'=>e= .returned (.bool (Ef k b 9223372036854775808 s i))/\Below w.heap.size w w':=by
 rw[strV_x (by omega) (by decide)]
 have a1:=o_m0
 have a2:=o_n0
 have a3:=Xw
 rcases hk with rfl|rfl|rfl|rfl|rfl|rfl
 all_goals
  cases b
  all_goals
   go_enter Tryz.func70,Tryz.ntmps70
   go_wp2
   go_ret
   exact⟨rfl,(Below.refl _ _).alloc (Nat.le_refl _) _⟩
theorem good_y (k:Int) (hk:k=1∨k=2∨k=3∨k=5∨k=6∨k=7) (b:Bool) (x:Nat) (hx:(FloatKind.f64.format.order x 0==some .eq)=false) (h0:x≠0) (s:ByteArray) (i:Int) (w:World):
  Calls Tryz.prog 70 #[.agg #[.int .i64 k, .bool b, .float .f64 x, .string s, .int .i64 i]] w fun e w'=>e= .returned (.bool (Ef k b x s i))/\Below w.heap.size w w':=by
 rw[strV_x (by omega) h0]
 clear h0
 have hx':(FloatKind.f64.format.order x 0 !=some .eq)=true:=by rw[bne,hx];rfl
 have hx2: ¬FloatKind.f64.format.order x 0=some .eq:=by simpa using hx
 rcases hk with rfl|rfl|rfl|rfl|rfl|rfl
 all_goals
  cases b
  all_goals
   go_enter Tryz.func70,Tryz.ntmps70
   go_wp2
   go_ret
   exact⟨rfl,(Below.refl _ _).alloc (Nat.le_refl _) _⟩
theorem good_5 (b:Bool) (s:ByteArray) (i:Int) (w:World):
  Calls Tryz.prog 70 #[.agg #[.int .i64 5, .bool b, .float .f64 0, .string s, .int .i64 i]] w fun e w'=>e= .returned (.bool (Ef 5 b 0 s i))/\Below w.heap.size w w':=by
 have a1:=o_00
 have a2:=o_i0
 have a3:=Rc
 cases b
 ·by_cases hi:i=0
  ·subst hi
   by_cases hs:s.size<=1048576
   ·have HV:=Ac (fun w=>Xp s (by omega) w)
    have hs':(s.size:Int)<=1048576:=by omega
    have hg:Ef 5 false 0 s 0=vS s:=by
     unfold Ef inG Lx Nf vS
     simp[hs]
    rw[hg]
    clear hg
    go_enter Tryz.func70,Tryz.ntmps70
    go_wp2_with fail
    refine(Zcf 0 (by decide) _).mono ?_
    rintro e w1 ⟨rfl,rfl⟩
    have hm:mnV 0=false:=by decide
    rw[hm]
    go_wp2_with fail
    refine(Aa HV _).mono ?_
    rintro e w1 ⟨rfl,hb⟩
    go_wp2
    go_ret
    exact⟨rfl,((Below.refl _ _).alloc (Nat.le_refl _) _).trans (hb.mono (by simp))⟩
   ·have hs': ¬(s.size:Int)<=1048576:=by omega
    have hg:Ef 5 false 0 s 0=false:=by
     unfold Ef inG Lx Nf
     simp[hs]
    rw[hg]
    clear hg
    go_enter Tryz.func70,Tryz.ntmps70
    go_wp2
    go_ret
    exact⟨rfl,(Below.refl _ _).alloc (Nat.le_refl _) _⟩
  ·have hg:Ef 5 false 0 s i=false:=by
    unfold Ef inG Lx
    simp[hi]
   rw[hg]
   clear hg
   go_enter Tryz.func70,Tryz.ntmps70
   go_wp2
   go_ret
   exact⟨rfl,(Below.refl _ _).alloc (Nat.le_refl _) _⟩
 ·have hg:Ef 5 true 0 s i=false:=by
   unfold Ef inG Lx
   simp
  rw[hg]
  clear hg
  go_enter Tryz.func70,Tryz.ntmps70
  go_wp2
  go_ret
  exact⟨rfl,(Below.refl _ _).alloc (Nat.le_refl _) _⟩
theorem Qr (v:VV) (hx:v.x<2^64) (w:World):Calls Tryz.prog 70 #[v.agg] w fun e w'=>e= .returned (.bool v.good)/\Below w.heap.size w w':=by
 obtain⟨k,b,x,s,i⟩:=v
 have h0:=Lw x hx
 unfold VV.agg VV.good
 dsimp only at *
 by_cases hk:k<1∨7<k
 ·exact good_out k b x s i hk w
 ·have hk':k=4∨k=5∨k=1∨k=2∨k=3∨k=6∨k=7:=by omega
  rcases hk' with rfl|hk'
  ·exact good_4 b x s i w
  ·by_cases h1:x=0
   ·subst h1
    rcases hk' with rfl|hk'
    ·exact good_5 b s i w
    ·exact good_x k hk' b s i w
   ·by_cases h2:x=9223372036854775808
    ·subst h2
     exact good_m k (by omega) b s i w
    ·exact good_y k (by omega) b x (by rw[h0];simp[h1,h2]) h1 s i w
