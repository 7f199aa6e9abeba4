import Derived.Test.YtfefpbjkbmaicaaGreatDoorQc
import Derived.Laws.Cover2
import Derived.Laws.FloatArith
import Derived.Test.YtfefpbjkbmaicaaGreatDoorChecked
import Derived.WalkSpells
import Derived.WalkLawsBesides
import Derived.Laws.BitsAllLaws
import Derived.Shelf.Small.Wraps
import Derived.Shelf.LaysM
import Derived.Shelf.Strconv.Clone
set_option linter.all false
namespace Go.Proofs.YtfefpbjkbmaicaaGreatDoor.FM
open Ieee
def sz (b:Nat):Nat:=b % 2^63
def ng (b:Nat):Bool:=b / 2^63 % 2==1
def INF:Nat:=0x7FF * 2^52
def isN (b:Nat):Bool:=decide (INF<sz b)
def pl (b:Nat):Int:=if ng b then -(sz b:Int) else (sz b:Int)

def vl (r:Nat):Nat:=if r<2^52 then r else (2^52+r % 2^52) * 2^(r / 2^52 - 1)

theorem signW:double.signWeight=2^63:=by decide+kernel
theorem binD:double.binade=2^52:=by decide+kernel
theorem infD:double.infRung=INF:=by decide+kernel
theorem leastD:double.leastPlace= -1074:=by decide+kernel

theorem Xt (b:Nat):double.read b=
  if sz b<2^52 then .number (ng b) (sz b) (-1074)
  else if sz b<INF then .number (ng b) (2^52+sz b % 2^52) (-1074+(sz b / 2^52 - 1:Nat))
  else if sz b=INF then .infinity (ng b)
  else .nan (ng b) (sz b - INF):=by
 unfold Format.read
 rw[signW,binD,infD,leastD]
 rfl

theorem Xf (r:Nat):vl r<vl (r+1):=by
 unfold vl
 split
 ·split
  ·omega
  ·have:r+1=2^52:=by omega
   rw[this];simp;omega
 ·rename_i h
  rw[if_neg (by omega)]
  by_cases hd:(r+1) % 2^52=0
  ·have e1:r % 2^52=2^52 - 1:=by omega
   have e2:(r+1) / 2^52=r / 2^52+1:=by omega
   have e3:r / 2^52+1 - 1=(r / 2^52 - 1)+1:=by omega
   rw[hd,e1,e2,e3,Nat.pow_succ 2 (r / 2^52 - 1)]
   have:0<2^(r / 2^52 - 1):=Nat.two_pow_pos _
   rw[Nat.add_zero]
   have q:2^52 * (2^(r / 2^52 - 1) * 2)=(2^52+2^52) * 2^(r / 2^52 - 1):=by rw[Nat.mul_comm _ 2,←Nat.mul_assoc]
   rw[q]
   exact Nat.mul_lt_mul_of_pos_right (by omega) this
  ·have e1:(r+1) % 2^52=r % 2^52+1:=by omega
   have e2:(r+1) / 2^52=r / 2^52:=by omega
   rw[e1,e2]
   have:0<2^(r / 2^52 - 1):=Nat.two_pow_pos _
   exact Nat.mul_lt_mul_of_pos_right (by omega) this

theorem Qz {r s:Nat} (h:r<s):vl r<vl s:=by
 induction s with
 |zero=>omega
 |succ n ih=>
  by_cases e:r=n
  ·rw[e];exact Xf n
  ·exact Nat.lt_trans (ih (by omega)) (Xf n)

theorem No {r s:Nat}:vl r<vl s↔r<s:=by
 constructor
 ·intro h
  rcases Nat.lt_trichotomy r s with a|a|a
  ·exact a
  ·rw[a] at h;omega
  ·have:=Qz a;omega
 ·exact Qz

theorem vl_inj {r s:Nat}:vl r=vl s↔r=s:=by
 constructor
 ·intro h
  rcases Nat.lt_trichotomy r s with a|a|a
  ·have:=Qz a;omega
  ·exact a
  ·have:=Qz a;omega
 ·intro h;rw[h]

theorem Ms (b:Nat) (h:sz b<INF): ∃m:Nat,∃k:Nat,double.read b= .number (ng b) m (-1074+(k:Int))/\m * 2^k=vl (sz b):=by
 rw[Xt]
 by_cases h1:sz b<2^52
 ·rw[if_pos h1]
  exact⟨sz b,0,by simp,by unfold vl;rw[if_pos h1];simp⟩
 ·rw[if_neg h1,if_pos h]
  exact⟨_,_,rfl,by unfold vl;rw[if_neg h1]⟩

theorem Mr (b:Nat) (h:sz b=INF):double.read b= .infinity (ng b):=by
 rw[Xt,h];simp[INF]

theorem Rm (b:Nat) (h:INF<sz b):double.read b= .nan (ng b) (sz b - INF):=by
 rw[Xt,if_neg (by unfold INF at h;omega),if_neg (by omega),if_neg (by omega)]

theorem ZbM (a b:Int) (p:Nat) (hp:0<p):compare (a * p) (b * p)=compare a b:=by
 have hp':(0:Int)<p:=by omega
 rcases Int.lt_trichotomy a b with h|h|h
 ·rw[Int.compare_eq_lt.2 h,Int.compare_eq_lt.2 (Int.mul_lt_mul_of_pos_right h hp')]
 ·subst h;simp
 ·rw[Int.compare_eq_gt.2 h,Int.compare_eq_gt.2 (Int.mul_lt_mul_of_pos_right h hp')]

def sgn (s:Bool) (n:Nat):Int:=if s then -(n:Int) else n

theorem cmp_sgn (s t:Bool) (a b:Nat):compare (sgn s (vl a)) (sgn t (vl b))=compare (sgn s a) (sgn t b):=by
 have z:vl 0=0:=by decide
 have m1: ∀x,x<=vl x:=by
  intro x;induction x with
  |zero=>omega
  |succ n ih=>have:=Xf n;omega
 have key: ∀x y:Int,∀x' y':Int,(x<y↔x'<y')->(x=y↔x'=y')->compare x y=compare x' y':=by
  intro x y x' y' h1 h2
  rcases Int.lt_trichotomy x y with h|h|h
  ·rw[Int.compare_eq_lt.2 h,Int.compare_eq_lt.2 (h1.1 h)]
  ·rw[Int.compare_eq_eq.2 h,Int.compare_eq_eq.2 (h2.1 h)]
  ·have:y'<x':=by
    rcases Int.lt_trichotomy x' y' with g|g|g
    ·have:=h1.2 g;omega
    ·have:=h2.2 g;omega
    ·exact g
   rw[Int.compare_eq_gt.2 h,Int.compare_eq_gt.2 this]
 have h1:= @No a b
 have h2:= @No b a
 have h3:= @vl_inj a b
 have pa:0<vl a↔0<a:=by rw[←z];rw[No,z]
 have pb:0<vl b↔0<b:=by rw[←z];rw[No,z]
 apply key<;>cases s<;>cases t<;>simp only[sgn]<;>simp<;>omega

theorem Zt (x y:Nat):double.order x y=if isN x||isN y then none else some (compare (pl x) (pl y)):=by
 unfold Format.order
 have plx: ∀b,pl b=sgn (ng b) (sz b):=fun b=>rfl
 rw[plx,plx]
 unfold isN
 rcases Nat.lt_trichotomy (sz x) INF with hx|hx|hx
 ·rcases Nat.lt_trichotomy (sz y) INF with hy|hy|hy
  ·obtain⟨m,k,e1,v1⟩:=Ms x hx
   obtain⟨n,l,e2,v2⟩:=Ms y hy
   rw[e1,e2]
   have: ¬INF<sz x:=by omega
   have: ¬INF<sz y:=by omega
   simp only[*,decide_false,Bool.or_self,Bool.false_eq_true,if_false]
   rw[←cmp_sgn,←v1,←v2]
   unfold Datum.order
   simp only[Option.some.injEq]
   have sg: ∀(s:Bool) (a u v:Nat),signed s a u * ((2^v:Nat):Int)=sgn s (a * 2^(u+v)):=by
    intro s a u v
    unfold signed sgn
    rw[Nat.shiftLeft_eq,Nat.pow_add,←Nat.mul_assoc]
    cases s<;>simp[Int.neg_mul]
   rcases Nat.le_total k l with h|h
   ·have e:min (-1074+(k:Int)) (-1074+(l:Int))= -1074+k:=by omega
    rw[e]
    have a1:(-1074+(k:Int) - (-1074+k)).toNat=0:=by omega
    have a2:(-1074+(l:Int) - (-1074+k)).toNat=l - k:=by omega
    rw[a1,a2,←ZbM _ _ (2^k) (Nat.two_pow_pos _),sg,sg]
    first|rw[Nat.zero_add,Nat.sub_add_cancel h]
   ·have e:min (-1074+(k:Int)) (-1074+(l:Int))= -1074+l:=by omega
    rw[e]
    have a1:(-1074+(k:Int) - (-1074+l)).toNat=k - l:=by omega
    have a2:(-1074+(l:Int) - (-1074+l)).toNat=0:=by omega
    rw[a1,a2,←ZbM _ _ (2^l) (Nat.two_pow_pos _),sg,sg]
    first|rw[Nat.zero_add,Nat.sub_add_cancel h]
  ·obtain⟨m,k,e1,v1⟩:=Ms x hx
   rw[e1,Mr y hy,hy]
   have: ¬INF<sz x:=by omega
   simp only[*,decide_false,Bool.or_self,Bool.false_eq_true,if_false,Nat.lt_irrefl]
   unfold Datum.order
   simp only[Option.some.injEq]
   cases ng y
   ·rw[if_neg (by decide)];symm;rw[Int.compare_eq_lt];unfold sgn;simp only[Bool.false_eq_true,if_false];split<;>omega
   ·rw[if_pos (by decide)];symm;rw[Int.compare_eq_gt];unfold sgn;simp only[if_true];split<;>omega
  ·have:INF<sz y:=hy
   obtain⟨m,k,e1,v1⟩:=Ms x hx
   rw[e1,Rm y hy]
   simp[this,Datum.order]
 ·rcases Nat.lt_trichotomy (sz y) INF with hy|hy|hy
  ·obtain⟨m,k,e1,v1⟩:=Ms y hy
   rw[e1,Mr x hx,hx]
   have: ¬INF<sz y:=by omega
   simp only[*,decide_false,Bool.or_self,Bool.false_eq_true,if_false,Nat.lt_irrefl]
   unfold Datum.order
   simp only[Option.some.injEq]
   cases ng x
   ·rw[if_neg (by decide)];symm;rw[Int.compare_eq_gt];unfold sgn;simp only[Bool.false_eq_true,if_false];split<;>omega
   ·rw[if_pos (by decide)];symm;rw[Int.compare_eq_lt];unfold sgn;simp only[if_true];split<;>omega
  ·rw[Mr x hx,Mr y hy,hx,hy]
   simp only[decide_false,Bool.or_self,Bool.false_eq_true,if_false,Nat.lt_irrefl]
   unfold Datum.order
   cases ng x<;>cases ng y<;>decide
  ·rw[Mr x hx,Rm y hy]
   simp[hy,Datum.order]
 ·rw[Rm x hx]
  simp[hx,Datum.order]

theorem pl_eqD (x y:Nat) (hx:x<2^64) (hy:y<2^64):pl x=pl y↔(x=y∨(sz x=0/\sz y=0)):=by
 unfold pl ng sz
 by_cases h1:x / 2^63 % 2=1<;>by_cases h2:y / 2^63 % 2=1<;>simp[h1,h2]<;>omega

theorem eqF (x y:Nat) (hx:x<2^64) (hy:y<2^64):(double.order x y==some .eq)=(!isN x && !isN y && (decide (x=y)||(decide (sz x=0) && decide (sz y=0)))):=by
 rw[Zt]
 have h:=pl_eqD x y hx hy
 cases isN x<;>cases isN y<;>simp
 rw[Bool.eq_iff_iff]
 simp[h]

theorem nanF (x:Nat):(double.order x x !=some .eq)=isN x:=by
 rw[Zt]
 cases isN x<;>simp

end Go.Proofs.YtfefpbjkbmaicaaGreatDoor.FM
namespace Go.Proofs.YtfefpbjkbmaicaaGreatDoor
set_option maxRecDepth 100000
set_option maxHeartbeats 0
section
open Go.RowKit FM
theorem Gx (b:Nat) (w:World):(callFunc 48 #[.float .f64 b]).run Tryz.prog w= .ok (.value (.int .u64 (b:Int))) w:=by
 rw[run_callFunc_extern Tryz.func48 (by kernel_rfl) (by kernel_rfl) (by kernel_rfl) (e:=Extern.MathFloatBits.float64bits) (by kernel_rfl)];rfl
attribute [local go_sem] Gx
theorem rb {a b:Bool} (h:a=b):Ending.returned (.bool a)=Ending.returned (.bool b):=by rw[h]
theorem Gg (b:Nat) (w:World):Calls Tryz.prog 135 #[.float .f64 b] w fun e w'=>e= .returned (.bool (isN b))/\w'=w:=by
 go_enter Tryz.func135,Tryz.ntmps135
 go_wp2
 go_ret
 exact⟨by rw[←nanF];rfl,rfl⟩
def Kw (x y:Nat):Bool:=(isN x && isN y)||decide (x=y)
def ZaM (x y:Nat):Bool:=Kw x y||(decide (sz x=0) && decide (sz y=0))
def Za2 (x y:Nat):Bool:= !isN x && !isN y && ZaM x y
theorem fo (x y:Nat):FloatKind.f64.format.order x y=Ieee.double.order x y:=rfl
theorem sz0_nan {b:Nat} (h:sz b=0):isN b=false:=by
 unfold isN;rw[h];decide

theorem same_any (x y:Nat) (w:World):Calls Tryz.prog 133 #[.float .f64 x, .float .f64 y] w fun e w'=>e= .returned (.bool (Kw x y))/\w'=w:=by
 cases hx:isN x
 ·cases hy:isN y
  ·go_enter Tryz.func133,Tryz.ntmps133
   go_wp2_with fail
   refine(Gg x _).mono ?_
   rintro e w' ⟨rfl,rfl⟩
   rw[hx]
   go_wp2_with fail
   refine(Gg y _).mono ?_
   rintro e w' ⟨rfl,rfl⟩
   rw[hy]
   go_wp2
   go_ret
   refine⟨rb ?_,rfl⟩
   unfold Kw
   rw[hx,hy,Bool.eq_iff_iff]
   simp
   omega
  ·go_enter Tryz.func133,Tryz.ntmps133
   go_wp2_with fail
   refine(Gg x _).mono ?_
   rintro e w' ⟨rfl,rfl⟩
   rw[hx]
   go_wp2_with fail
   refine(Gg y _).mono ?_
   rintro e w' ⟨rfl,rfl⟩
   rw[hy]
   go_wp2_with fail
   refine(Gg x _).mono ?_
   rintro e w' ⟨rfl,rfl⟩
   rw[hx]
   go_wp2
   go_ret
   refine⟨rb ?_,rfl⟩
   unfold Kw
   have hne:x≠y:=fun e=>by rw[e,hy] at hx;cases hx
   simp[hx,hne]
 ·cases hy:isN y
  ·go_enter Tryz.func133,Tryz.ntmps133
   go_wp2_with fail
   refine(Gg x _).mono ?_
   rintro e w' ⟨rfl,rfl⟩
   rw[hx]
   go_wp2_with fail
   refine(Gg x _).mono ?_
   rintro e w' ⟨rfl,rfl⟩
   rw[hx]
   go_wp2_with fail
   refine(Gg y _).mono ?_
   rintro e w' ⟨rfl,rfl⟩
   rw[hy]
   go_wp2
   go_ret
   refine⟨rb ?_,rfl⟩
   unfold Kw
   have hne:x≠y:=fun e=>by rw[e,hy] at hx;cases hx
   simp[hy,hne]
  ·go_enter Tryz.func133,Tryz.ntmps133
   go_wp2_with fail
   refine(Gg x _).mono ?_
   rintro e w' ⟨rfl,rfl⟩
   rw[hx]
   go_wp2_with fail
   refine(Gg x _).mono ?_
   rintro e w' ⟨rfl,rfl⟩
   rw[hx]
   go_wp2_with fail
   refine(Gg y _).mono ?_
   rintro e w' ⟨rfl,rfl⟩
   rw[hy]
   go_wp2
   go_ret
   refine⟨rb ?_,rfl⟩
   simp[Kw,hx,hy]
theorem eq_order (x y:Nat) (hx64:x<2^64) (hy64:y<2^64):(FloatKind.f64.format.order x y==some .eq)=Za2 x y:=by
 rw[fo,eqF x y hx64 hy64]
 unfold Za2 ZaM Kw
 cases isN x<;>cases isN y<;>simp
end
end Go.Proofs.YtfefpbjkbmaicaaGreatDoor
namespace Go.Proofs
open Go.Shelf
def Tryz.laysM316_ren:Go.Shelf.Ren:=⟨fun|316=>61|n=>n,fun|9=>9|3=>3|4=>4|37=>140|0=>0|127=>141|5=>5|n=>n,fun|n=>n⟩
theorem Tryz.laysM316:Go.Proofs.LaysM.n316 Tryz.prog Tryz.laysM316_ren:={
 mixed:=by kernel_rfl
 f316:=Tryz.func61.trans (congrArg some (by kernel_rfl))
 t0:=Tryz.underlying0
 a0:=Tryz.isAgg0
 z0:=Tryz.sizeOf0
 v0:=Tryz.zeroValue0
 t3:=Tryz.underlying3
 a3:=Tryz.isAgg3
 z3:=Tryz.sizeOf3
 v3:=Tryz.zeroValue3
 t4:=Tryz.underlying4
 a4:=Tryz.isAgg4
 z4:=Tryz.sizeOf4
 v4:=Tryz.zeroValue4
 t9:=Tryz.underlying9
 a9:=Tryz.isAgg9
 z9:=Tryz.sizeOf9
 v9:=Tryz.zeroValue9
 t37:=Tryz.underlying140
 a37:=Tryz.isAgg140
 z37:=Tryz.sizeOf140
 v37:=Tryz.zeroValue140
 t127:=Tryz.underlying141
 a127:=Tryz.isAgg141
 z127:=Tryz.sizeOf141
 v127:=Tryz.zeroValue141
 t5:=Tryz.underlying5
 a5:=Tryz.isAgg5
 z5:=Tryz.sizeOf5
 v5:=Tryz.zeroValue5
 i0:=by kernel_rfl
 i3:=by kernel_rfl
 i4:=by kernel_rfl
 i5:=by kernel_rfl
 i9:=by kernel_rfl
 i37:=by kernel_rfl
 i127:=by kernel_rfl}
open Go.RowKit in
/-- internal/stringslite.Clone (what strings.Clone calls): "Clone returns a fresh copy of s.": THE SAME BYTES. Of what was there nothing has turned (a new row is laid, and frozen, where s is not empty). (LAID: no walk: one application.) -/
theorem Tryz.stringslite_Clone (s:ByteArray) (w:World) (hlim:s.size<=281474976710656):
  Calls Tryz.prog 61 #[.string s] w fun e w'=>e= .returned (.string s)/\Below w.heap.size w w':=Any.stringslite_Clone Tryz.laysM316 s w hlim
end Go.Proofs
namespace Go.Proofs.YtfefpbjkbmaicaaGreatDoor
set_option maxRecDepth 100000
set_option maxHeartbeats 0
section
open Go.RowKit
attribute [local go_sem] Gx
structure VV where
 k:Int
 b:Bool
 x:Nat
 s:ByteArray
 i:Int
def VV.agg (v:VV):Value:= .agg #[.int .i64 v.k, .bool v.b, .float .f64 v.x, .string v.s, .int .i64 v.i]
def VV.ifc (v:VV):Value:=
 if v.k=1 then .iface 154 (.agg #[]) else if v.k=2 then .iface 155 (.agg #[]) else if v.k=3 then .iface 156 (.bool v.b) else if v.k=4 then .iface 138 (.float .f64 v.x)
 else if v.k=5 then .iface 157 (.string v.s) else if v.k=6 then .iface 158 (.int .i64 v.i) else .iface 159 (.int .i64 v.i)
def Lx (k:Int) (b:Bool) (x:Nat) (s:ByteArray) (i:Int):Bool:=
 b && k !=3||x !=0 && k !=4|| !s.toList.isEmpty && k !=5||i !=0 && k !=6 && k !=7

theorem ZaI (k:Int) (b:Bool) (x:Nat) (s:ByteArray) (i:Int) (w:World):
  Calls Tryz.prog 87 #[.agg #[.int .i64 k, .bool b, .float .f64 x, .string s, .int .i64 i]] w fun e w'=>e= .returned (.bool (Lx k b x s i))/\Below w.heap.size w w':=by
 unfold Lx
 cases b
 all_goals
  go_enter Tryz.func87,Tryz.ntmps87
  go_wp2
  all_goals
   go_ret
   refine⟨?_,(Below.refl _ _).alloc (Nat.le_refl _) _⟩
   simp[*]
def Nf (s:ByteArray):Bool:=decide (s.size<=1048576) && M.valid false (Dg s)
theorem fits_any (s:ByteArray) (w:World) (hT:Lib.Utf8Tabs 4 5 w):
  Calls Tryz.prog 88 #[.string s] w fun e w'=>e= .returned (.bool (Nf s))/\Below w.heap.size w w':=by
 have HV:=Ac (ZbV s w hT)
 clear hT
 unfold Nf
 by_cases h:s.size<=1048576
 ·have h':(s.size:Int)<=1048576:=by omega
  go_enter Tryz.func88,Tryz.ntmps88
  go_wp2_with fail
  refine(Aa HV).mono ?_
  rintro e w1 ⟨rfl,hb⟩
  go_wp2
  go_ret
  refine⟨?_,hb⟩
  rw[decide_eq_true h]
  rfl
 ·have h': ¬(s.size:Int)<=1048576:=by omega
  go_enter Tryz.func88,Tryz.ntmps88
  go_wp2
  go_ret
  exact⟨rfl,Below.refl _ _⟩
def inG (st ft:Bool) (k i:Int):Bool:=
 !st && (k==1||k==2||k==3||k==4||k==5 && ft||k==6 && decide (1<=i) && decide (i<=65536)||k==7 && decide (1<=i) && decide (i<=65536))
def inI (st ft:Bool) (v:VV):Value:=if inG st ft v.k v.i then v.ifc else .nilIface
def Ef (k:Int) (b:Bool) (x:Nat) (s:ByteArray) (i:Int):Bool:=inG (Lx k b x s i) (Nf s) k i
def Zad (v:VV):Value:=inI (Lx v.k v.b v.x v.s v.i) (Nf v.s) v
def VV.good (v:VV):Bool:=Ef v.k v.b v.x v.s v.i
theorem ZaY {w w1:World} {c0 c1 c2 c3 c4:Value} {t:TypeId} (hb:Below (w.alloc (Obj.cells #[c0,c1,c2,c3,c4] t)).heap.size (w.alloc (Obj.cells #[c0,c1,c2,c3,c4] t)) w1):
  w1.cell? ⟨w.heap.size,0,none⟩=some c0/\w1.cell? ⟨w.heap.size,1,none⟩=some c1/\w1.cell? ⟨w.heap.size,2,none⟩=some c2/\w1.cell? ⟨w.heap.size,3,none⟩=some c3/\w1.cell? ⟨w.heap.size,4,none⟩=some c4/\
  Below w.heap.size w w1/\w.heap.size<w1.heap.size:=by
 have h0:=hb.cell (p:=⟨w.heap.size,0,none⟩) (by simp)
 have h1:=hb.cell (p:=⟨w.heap.size,1,none⟩) (by simp)
 have h2:=hb.cell (p:=⟨w.heap.size,2,none⟩) (by simp)
 have h3:=hb.cell (p:=⟨w.heap.size,3,none⟩) (by simp)
 have h4:=hb.cell (p:=⟨w.heap.size,4,none⟩) (by simp)
 simp[go_sem] at h0 h1 h2 h3 h4
 refine⟨h0,h1,h2,h3,h4,((Below.refl _ _).alloc (Nat.le_refl _) _).trans (hb.mono (by simp)), ?_⟩
 have:=hb.size
 simp at this
 omega
theorem Kk (k:Int) (b:Bool) (x:Nat) (s:ByteArray) (i:Int) (w:World) (hT:Lib.Utf8Tabs 4 5 w):
  Calls Tryz.prog 73 #[.agg #[.int .i64 k, .bool b, .float .f64 x, .string s, .int .i64 i]] w fun e w'=>e= .returned (.tuple #[Zad ⟨k,b,x,s,i⟩, .bool (Ef k b x s i)])/\Below w.heap.size w w':=by
 have HS:=Ac (fun w=>ZaI k b x s i w)
 have HF:=Ac (fun w (hT:Lib.Utf8Tabs 4 5 w)=>fits_any s w hT)
 have HT:=Ac hT
 clear hT
 unfold Ef Zad
 dsimp only
 generalize Lx k b x s i=st at *
 generalize Nf s=ft at *
 cases st
 ·by_cases e5:k=5
  ·subst e5
   go_enter Tryz.func73,Tryz.ntmps73
   go_wp2_with fail
   refine(Aa HS _).mono ?_
   rintro e w1 ⟨rfl,hb⟩
   obtain⟨c0,c1,c2,c3,c4,hB,hsz⟩:=ZaY hb
   clear hb
   go_wp2_with fail
   refine(Aa HF _ (Bf (Aa HT) hB)).mono ?_
   rintro e w2 ⟨rfl,hb2⟩
   have d3:=hb2.cell (p:=⟨w.heap.size,3,none⟩) hsz
   rw[c3] at d3
   cases ft
   ·have d0:=hb2.cell (p:=⟨w.heap.size,0,none⟩) hsz
    rw[c0] at d0
    go_wp2
    go_ret2
    exact⟨by simp[inG,inI],hB.trans (hb2.mono hB.size)⟩
   ·go_wp2
    go_ret2
    exact⟨by simp[inG,inI,VV.ifc],hB.trans (hb2.mono hB.size)⟩
  ·have hk:k=1∨k=2∨k=3∨k=4∨k=6∨k=7∨(k==1)=false/\(k==2)=false/\(k==3)=false/\(k==4)=false/\(k==5)=false/\(k==6)=false/\(k==7)=false:=by
    simp only[beq_eq_false_iff_ne]
    omega
   clear e5 HF HT
   rcases hk with rfl|rfl|rfl|rfl|rfl|rfl|⟨e1,e2,e3,e4,e5,e6,e7⟩
   all_goals
    go_enter Tryz.func73,Tryz.ntmps73
    go_wp2_with fail
    refine(Aa HS _).mono ?_
    rintro e w1 ⟨rfl,hb⟩
    obtain⟨c0,c1,c2,c3,c4,hB,hsz⟩:=ZaY hb
    clear hb HS
    go_wp2
    all_goals
     go_ret2
     refine⟨?_,hB⟩
     simp[inG,inI,VV.ifc, *]
     try omega
 ·go_enter Tryz.func73,Tryz.ntmps73
  go_wp2_with fail
  refine(Aa HS _).mono ?_
  rintro e w1 ⟨rfl,hb⟩
  obtain⟨c0,c1,c2,c3,c4,hB,hsz⟩:=ZaY hb
  go_wp2
  go_ret2
  exact⟨by simp[inG,inI],hB⟩
theorem Ni {s:ByteArray} (h:s.toList.isEmpty=true):s=ByteArray.empty:=by
 cases s with
 |mk d=>
  rw[Lib.toList_data] at h
  have:d.toList= []:=by simpa using h
  have h2:d= #[]:=Array.toList_inj.1 (by simpa using this)
  subst h2;rfl
theorem Ek {k:Int} {b:Bool} {x:Nat} {s:ByteArray} {i:Int} (h:Ef k b x s i=true):
  (k=1/\b=false/\x=0/\s=ByteArray.empty/\i=0)∨(k=2/\b=false/\x=0/\s=ByteArray.empty/\i=0)∨(k=3/\x=0/\s=ByteArray.empty/\i=0)∨(k=4/\b=false/\s=ByteArray.empty/\i=0)∨
  (k=5/\b=false/\x=0/\i=0/\Nf s=true)∨(k=6/\b=false/\x=0/\s=ByteArray.empty/\1<=i/\i<=65536)∨(k=7/\b=false/\x=0/\s=ByteArray.empty/\1<=i/\i<=65536):=by
 have hs:= @Ni s
 unfold Ef inG Lx at h
 generalize Nf s=ft at *
 generalize s.toList.isEmpty=q at *
 have hk:k=1∨k=2∨k=3∨k=4∨k=5∨k=6∨k=7:=by
  simp at h
  omega
 rcases hk with rfl|rfl|rfl|rfl|rfl|rfl|rfl<;>cases b<;>cases q<;>simp at h hs<;>simp[h,hs]
theorem Lt (s:ByteArray) (w:World) (h:s.size<=1048576):Calls Tryz.prog 33 #[.string s] w fun e w'=>e= .returned (.string s)/\Below w.heap.size w w':=by
 have HC:=Ac (Tryz.stringslite_Clone s w (by omega))
 go_enter Tryz.func33,Tryz.ntmps33
 go_wp2_with fail
 refine(Aa HC).mono ?_
 rintro e w1 ⟨rfl,hb⟩
 go_wp2
 go_ret
 exact⟨rfl,hb⟩
end
section
open Go.RowKit FM
attribute [local go_sem] Gx
theorem m56 (w : World) : (method 355 154 (.agg #[]) "cameo/value.kind").run Tryz.prog w = .ok (187, .agg #[]) w := by kernel_rfl
theorem m57 (w : World) : (method 355 155 (.agg #[]) "cameo/value.kind").run Tryz.prog w = .ok (188, .agg #[]) w := by kernel_rfl
theorem m58 (b : Bool) (w : World) : (method 355 156 (.bool b) "cameo/value.kind").run Tryz.prog w = .ok (189, .bool b) w := by kernel_rfl
theorem m59 (x : Nat) (w : World) : (method 355 138 (.float .f64 x) "cameo/value.kind").run Tryz.prog w = .ok (186, .float .f64 x) w := by kernel_rfl
theorem m79 (s : ByteArray) (w : World) : (method 355 157 (.string s) "cameo/value.kind").run Tryz.prog w = .ok (190, .string s) w := by kernel_rfl
theorem m81 (i : Int) (w : World) : (method 355 158 (.int .i64 i) "cameo/value.kind").run Tryz.prog w = .ok (191, .int .i64 i) w := by kernel_rfl
theorem m82 (i : Int) (w : World) : (method 355 159 (.int .i64 i) "cameo/value.kind").run Tryz.prog w = .ok (192, .int .i64 i) w := by kernel_rfl
theorem Dt (P:Program) (w:World) (a:Addr) (m:Mode) (k:FloatKind) (x:Nat):(store a (.float k x) m).run P w=stored P w a (.float k x) m:=run_store P w a _ m rfl
theorem ta56 (u:TypeId) (v:Value) (w:World):(Instr.typeAssert (.iface u v) 129 154 true).run Tryz.prog w= .ok (if u=154 then .tuple #[v, .bool true] else .tuple #[.agg #[], .bool false]) w:=by
 by_cases h:u=154<;>simp[Instr.typeAssert,run_underlying Tryz.underlying154,h,Tryz.zeroValue154]
theorem ta57 (u:TypeId) (v:Value) (w:World):(Instr.typeAssert (.iface u v) 129 155 true).run Tryz.prog w= .ok (if u=155 then .tuple #[v, .bool true] else .tuple #[.agg #[], .bool false]) w:=by
 by_cases h:u=155<;>simp[Instr.typeAssert,run_underlying Tryz.underlying155,h,Tryz.zeroValue155]
theorem ta58 (u:TypeId) (v:Value) (w:World):(Instr.typeAssert (.iface u v) 129 156 true).run Tryz.prog w= .ok (if u=156 then .tuple #[v, .bool true] else .tuple #[.bool false, .bool false]) w:=by
 by_cases h:u=156<;>simp[Instr.typeAssert,run_underlying Tryz.underlying156,h,Tryz.zeroValue156]
theorem ta59 (u:TypeId) (v:Value) (w:World):(Instr.typeAssert (.iface u v) 129 138 true).run Tryz.prog w= .ok (if u=138 then .tuple #[v, .bool true] else .tuple #[.float .f64 0, .bool false]) w:=by
 by_cases h:u=138<;>simp[Instr.typeAssert,run_underlying Tryz.underlying138,h,Tryz.zeroValue138]
theorem ta79 (u:TypeId) (v:Value) (w:World):(Instr.typeAssert (.iface u v) 129 157 true).run Tryz.prog w= .ok (if u=157 then .tuple #[v, .bool true] else .tuple #[.string ⟨#[]⟩, .bool false]) w:=by
 by_cases h:u=157<;>simp[Instr.typeAssert,run_underlying Tryz.underlying157,h,Tryz.zeroValue157]
theorem ta81 (u:TypeId) (v:Value) (w:World):(Instr.typeAssert (.iface u v) 129 158 true).run Tryz.prog w= .ok (if u=158 then .tuple #[v, .bool true] else .tuple #[.int .i64 0, .bool false]) w:=by
 by_cases h:u=158<;>simp[Instr.typeAssert,run_underlying Tryz.underlying158,h,Tryz.zeroValue158]
theorem ta82 (u:TypeId) (v:Value) (w:World):(Instr.typeAssert (.iface u v) 129 159 true).run Tryz.prog w= .ok (if u=159 then .tuple #[v, .bool true] else .tuple #[.int .i64 0, .bool false]) w:=by
 by_cases h:u=159<;>simp[Instr.typeAssert,run_underlying Tryz.underlying159,h,Tryz.zeroValue159]
attribute [local go_sem] m56 m57 m58 m59 m79 m81 m82 Dt ta56 ta57 ta58 ta59 ta79 ta81 ta82
theorem Gy (w:World) (o1 o2:Obj):Below w.heap.size w ((w.alloc o1).alloc o2):=((Below.refl _ _).alloc (Nat.le_refl _) _).alloc (by simp) _
theorem below3 (w:World) (o1 o2 o3:Obj):Below w.heap.size w (((w.alloc o1).alloc o2).alloc o3):=(Gy w o1 o2).alloc (by simp;omega) _
theorem kind5 (s:ByteArray) (w:World):Calls Tryz.prog 190 #[.string s] w fun e w'=>e= .returned (.int .i64 5)/\w'=w:=by
 go_enter Tryz.func190,Tryz.ntmps190
 go_wp2
 go_ret
 exact⟨rfl,rfl⟩
theorem Zr (w:World):Calls Tryz.prog 76 #[.iface 154 (.agg #[])] w fun e w'=>e= .returned (VV.agg ⟨1,false,0,ByteArray.empty,0⟩)/\Below w.heap.size w w':=by
 unfold VV.agg
 go_enter Tryz.func76,Tryz.ntmps76
 go_wp2
 simp[bodyPost,results,Tryz.results76,go_sem]
 exact⟨rfl,below3 ..⟩
theorem outside2 (w:World):Calls Tryz.prog 76 #[.iface 155 (.agg #[])] w fun e w'=>e= .returned (VV.agg ⟨2,false,0,ByteArray.empty,0⟩)/\Below w.heap.size w w':=by
 unfold VV.agg
 go_enter Tryz.func76,Tryz.ntmps76
 go_wp2
 simp[bodyPost,results,Tryz.results76,go_sem]
 exact⟨rfl,below3 ..⟩
theorem outside3 (b:Bool) (w:World):Calls Tryz.prog 76 #[.iface 156 (.bool b)] w fun e w'=>e= .returned (VV.agg ⟨3,b,0,ByteArray.empty,0⟩)/\Below w.heap.size w w':=by
 unfold VV.agg
 go_enter Tryz.func76,Tryz.ntmps76
 go_wp2
 simp[bodyPost,results,Tryz.results76,go_sem]
 exact⟨rfl,Gy ..⟩
theorem Zq (x:Nat) (w:World):Calls Tryz.prog 76 #[.iface 138 (.float .f64 x)] w fun e w'=>e= .returned (VV.agg ⟨4,false,x,ByteArray.empty,0⟩)/\Below w.heap.size w w':=by
 unfold VV.agg
 go_enter Tryz.func76,Tryz.ntmps76
 go_wp2
 simp[bodyPost,results,Tryz.results76,go_sem]
 exact⟨rfl,Gy ..⟩
theorem outside6 (i:Int) (w:World):Calls Tryz.prog 76 #[.iface 158 (.int .i64 i)] w fun e w'=>e= .returned (VV.agg ⟨6,false,0,ByteArray.empty,i⟩)/\Below w.heap.size w w':=by
 unfold VV.agg
 go_enter Tryz.func76,Tryz.ntmps76
 go_wp2
 simp[bodyPost,results,Tryz.results76,go_sem]
 exact⟨rfl,Gy ..⟩
theorem outside7 (i:Int) (w:World):Calls Tryz.prog 76 #[.iface 159 (.int .i64 i)] w fun e w'=>e= .returned (VV.agg ⟨7,false,0,ByteArray.empty,i⟩)/\Below w.heap.size w w':=by
 unfold VV.agg
 go_enter Tryz.func76,Tryz.ntmps76
 go_wp2
 simp[bodyPost,results,Tryz.results76,go_sem]
 exact⟨rfl,Gy ..⟩
theorem thaw {w w1:World} {c0 c1 c2 c3 c4:Value} {t:TypeId} (hb:Below (w.alloc (Obj.cells #[c0,c1,c2,c3,c4] t)).heap.size (w.alloc (Obj.cells #[c0,c1,c2,c3,c4] t)) w1) (j:Nat):
  w1.frozen? ⟨w.heap.size,j,none⟩=false:=by
 rw[hb.frozen (p:=⟨w.heap.size,j,none⟩) (by simp)]
 simp[go_sem]
theorem outside5 (s:ByteArray) (h:s.size<=1048576) (w:World):Calls Tryz.prog 76 #[.iface 157 (.string s)] w fun e w'=>e= .returned (VV.agg ⟨5,false,0,s,0⟩)/\Below w.heap.size w w':=by
 have HC:=Ac (fun w=>Lt s w h)
 clear h
 unfold VV.agg
 go_enter Tryz.func76,Tryz.ntmps76
 go_wp2_with fail
 refine(kind5 s _).mono ?_
 rintro e w1 ⟨rfl,rfl⟩
 go_wp2_with fail
 refine(Aa HC _).mono ?_
 rintro e w2 ⟨rfl,hb⟩
 obtain⟨c0,c1,c2,c3,c4,hB,hsz⟩:=ZaY hb
 have hf:=thaw hb 3
 have hr0:=(hb.cell (p:=⟨w.heap.size,0,none⟩) (by simp;omega))
 have hr1:=(hb.cell (p:=⟨w.heap.size,1,none⟩) (by simp;omega))
 have hr2:=(hb.cell (p:=⟨w.heap.size,2,none⟩) (by simp;omega))
 have hr3:=(hb.cell (p:=⟨w.heap.size,3,none⟩) (by simp;omega))
 have hr4:=(hb.cell (p:=⟨w.heap.size,4,none⟩) (by simp;omega))
 have fz:=fun j=>hb.frozen (p:=⟨w.heap.size,j,none⟩) (by simp;omega)
 simp[go_sem] at c0 c1 c2 c3 c4 hf hsz hr0 hr1 hr2 hr3 hr4 fz
 have hB':Below w.heap.size w w2:=((Below.refl _ _).alloc (Nat.le_refl _) _).trans (hB.mono (by simp))
 clear hb hB
 go_wp2
 simp[bodyPost,results,Tryz.results76,go_sem,hr0,hr1,hr2,hr3,hr4]
 exact(((((hB'.setCell (by simp) _).setCell (Nat.le_refl _) _).setCell (Nat.le_refl _) _).setCell (Nat.le_refl _) _).setCell (Nat.le_refl _) _).setCell (Nat.le_refl _) _
theorem Zp (v:VV) (h:v.good=true) (w:World):Calls Tryz.prog 76 #[v.ifc] w fun e w'=>e= .returned v.agg/\Below w.heap.size w w':=by
 obtain⟨k,b,x,s,i⟩:=v
 rcases Ek h with ⟨rfl,rfl,rfl,rfl,rfl⟩|⟨rfl,rfl,rfl,rfl,rfl⟩|⟨rfl,rfl,rfl,rfl⟩|⟨rfl,rfl,rfl,rfl⟩|⟨rfl,rfl,rfl,rfl,hs⟩|⟨rfl,rfl,rfl,rfl, -, -⟩|⟨rfl,rfl,rfl,rfl, -, -⟩
 ·exact Zr w
 ·exact outside2 w
 ·exact outside3 b w
 ·exact Zq x w
 ·refine outside5 s ?_ w
  unfold Nf at hs
  simp at hs
  exact hs.1
 ·exact outside6 i w
 ·exact outside7 i w
theorem Qi {v:VV} (h:v.good=true):Zad v=v.ifc:=by
 unfold VV.good Ef at h
 unfold Zad inI
 rw[if_pos h]
theorem Zac (v:VV) (h:v.good=true) (w:World) (hT:Lib.Utf8Tabs 4 5 w):Calls Tryz.prog 73 #[v.agg] w fun e w'=>e= .returned (.tuple #[v.ifc, .bool true])/\Below w.heap.size w w':=by
 have:=Kk v.k v.b v.x v.s v.i w hT
 rw[show Ef v.k v.b v.x v.s v.i=true from h,Qi (v:=⟨v.k,v.b,v.x,v.s,v.i⟩) h] at this
 exact this
