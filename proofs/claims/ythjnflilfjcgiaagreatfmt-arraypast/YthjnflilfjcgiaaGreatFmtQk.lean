import Derived.Test.YthjnflilfjcgiaaGreatFmtQe
import Derived.Test.YthjnflilfjcgiaaGreatFmtQj
import Derived.Test.YthjnflilfjcgiaaGreatFmtChecked
import Derived.WalkSpells
import Derived.WalkLawsBesides
import Derived.Laws.BitsAllLaws
set_option linter.all false
namespace Go.Proofs.YthjnflilfjcgiaaGreatFmt
set_option maxRecDepth 100000
set_option maxHeartbeats 0
section
open Go.RowKit FM
theorem Eg (b:Nat) (w:World):(callFunc 41 #[.float .f64 b]).run Tryz.prog w= .ok (.value (.int .u64 (b:Int))) w:=by
 rw[run_callFunc_extern Tryz.func41 (by kernel_rfl) (by kernel_rfl) (by kernel_rfl) (e:=Extern.MathFloatBits.float64bits) (by kernel_rfl)];rfl
attribute [local go_sem] Eg
theorem rb {a b:Bool} (h:a=b):Ending.returned (.bool a)=Ending.returned (.bool b):=by rw[h]
theorem Ec (b:Nat) (w:World):Calls Tryz.prog 132 #[.float .f64 b] w fun e w'=>e= .returned (.bool (isN b))/\w'=w:=by
 go_enter Tryz.func132,Tryz.ntmps132
 go_wp2
 go_ret
 exact⟨by rw[←nanF];rfl,rfl⟩
def Lj (x y:Nat):Bool:=(isN x && isN y)||decide (x=y)
def ZbA (x y:Nat):Bool:=Lj x y||(decide (sz x=0) && decide (sz y=0))
def ZbU (x y:Nat):Bool:= !isN x && !isN y && ZbA x y
theorem fo (x y:Nat):FloatKind.f64.format.order x y=Ieee.double.order x y:=rfl
theorem sz0_nan {b:Nat} (h:sz b=0):isN b=false:=by
 unfold isN;rw[h];decide

theorem same_any (x y:Nat) (w:World):Calls Tryz.prog 130 #[.float .f64 x, .float .f64 y] w fun e w'=>e= .returned (.bool (Lj x y))/\w'=w:=by
 cases hx:isN x
 ·cases hy:isN y
  ·go_enter Tryz.func130,Tryz.ntmps130
   go_wp2_with fail
   refine(Ec x _).mono ?_
   rintro e w' ⟨rfl,rfl⟩
   rw[hx]
   go_wp2_with fail
   refine(Ec y _).mono ?_
   rintro e w' ⟨rfl,rfl⟩
   rw[hy]
   go_wp2
   go_ret
   refine⟨rb ?_,rfl⟩
   unfold Lj
   rw[hx,hy,Bool.eq_iff_iff]
   simp
   omega
  ·go_enter Tryz.func130,Tryz.ntmps130
   go_wp2_with fail
   refine(Ec x _).mono ?_
   rintro e w' ⟨rfl,rfl⟩
   rw[hx]
   go_wp2_with fail
   refine(Ec y _).mono ?_
   rintro e w' ⟨rfl,rfl⟩
   rw[hy]
   go_wp2_with fail
   refine(Ec x _).mono ?_
   rintro e w' ⟨rfl,rfl⟩
   rw[hx]
   go_wp2
   go_ret
   refine⟨rb ?_,rfl⟩
   unfold Lj
   have hne:x≠y:=fun e=>by rw[e,hy] at hx;cases hx
   simp[hx,hne]
 ·cases hy:isN y
  ·go_enter Tryz.func130,Tryz.ntmps130
   go_wp2_with fail
   refine(Ec x _).mono ?_
   rintro e w' ⟨rfl,rfl⟩
   rw[hx]
   go_wp2_with fail
   refine(Ec x _).mono ?_
   rintro e w' ⟨rfl,rfl⟩
   rw[hx]
   go_wp2_with fail
   refine(Ec y _).mono ?_
   rintro e w' ⟨rfl,rfl⟩
   rw[hy]
   go_wp2
   go_ret
   refine⟨rb ?_,rfl⟩
   unfold Lj
   have hne:x≠y:=fun e=>by rw[e,hy] at hx;cases hx
   simp[hy,hne]
  ·go_enter Tryz.func130,Tryz.ntmps130
   go_wp2_with fail
   refine(Ec x _).mono ?_
   rintro e w' ⟨rfl,rfl⟩
   rw[hx]
   go_wp2_with fail
   refine(Ec x _).mono ?_
   rintro e w' ⟨rfl,rfl⟩
   rw[hx]
   go_wp2_with fail
   refine(Ec y _).mono ?_
   rintro e w' ⟨rfl,rfl⟩
   rw[hy]
   go_wp2
   go_ret
   refine⟨rb ?_,rfl⟩
   simp[Lj,hx,hy]
theorem eq_order (x y:Nat) (hx64:x<2^64) (hy64:y<2^64):(FloatKind.f64.format.order x y==some .eq)=ZbU x y:=by
 rw[fo,eqF x y hx64 hy64]
 unfold ZbU ZbA Lj
 cases isN x<;>cases isN y<;>simp
end
section
open Go.RowKit
attribute [local go_sem] Eg
structure VV where
 k:Int
 b:Bool
 x:Nat
 s:ByteArray
 i:Int
def VV.agg (v:VV):Value:= .agg #[.int .i64 v.k, .bool v.b, .float .f64 v.x, .string v.s, .int .i64 v.i]
def VV.ifc (v:VV):Value:=
 if v.k=1 then .iface 133 (.agg #[]) else if v.k=2 then .iface 86 (.agg #[]) else if v.k=3 then .iface 114 (.bool v.b) else if v.k=4 then .iface 94 (.float .f64 v.x)
 else if v.k=5 then .iface 115 (.string v.s) else if v.k=6 then .iface 117 (.int .i64 v.i) else .iface 118 (.int .i64 v.i)
def Uf (k:Int) (b:Bool) (x:Nat) (s:ByteArray) (i:Int):Bool:=
 b && k !=3||x !=0 && k !=4|| !s.toList.isEmpty && k !=5||i !=0 && k !=6 && k !=7

theorem Zbu (k:Int) (b:Bool) (x:Nat) (s:ByteArray) (i:Int) (w:World):
  Calls Tryz.prog 69 #[.agg #[.int .i64 k, .bool b, .float .f64 x, .string s, .int .i64 i]] w fun e w'=>e= .returned (.bool (Uf k b x s i))/\Below w.heap.size w w':=by
 unfold Uf
 cases b
 all_goals
  go_enter Tryz.func69,Tryz.ntmps69
  go_wp2
  all_goals
   go_ret
   refine⟨?_,(Below.refl _ _).alloc (Nat.le_refl _) _⟩
   simp[*]
def Vh (s:ByteArray):Bool:=decide (s.size<=1048576) && M.valid false (Dn s)
theorem fits_any (s:ByteArray) (w:World) (hT:Lib.Utf8Tabs 4 5 w):
  Calls Tryz.prog 70 #[.string s] w fun e w'=>e= .returned (.bool (Vh s))/\Below w.heap.size w w':=by
 have HV:=Ab (ZcI s w hT)
 clear hT
 unfold Vh
 by_cases h:s.size<=1048576
 ·have h':(s.size:Int)<=1048576:=by omega
  go_enter Tryz.func70,Tryz.ntmps70
  go_wp2_with fail
  refine(Aa HV).mono ?_
  rintro e w1 ⟨rfl,hb⟩
  go_wp2
  go_ret
  refine⟨?_,hb⟩
  rw[decide_eq_true h]
  rfl
 ·have h': ¬(s.size:Int)<=1048576:=by omega
  go_enter Tryz.func70,Tryz.ntmps70
  go_wp2
  go_ret
  exact⟨rfl,Below.refl _ _⟩
def inG (st ft:Bool) (k i:Int):Bool:=
 !st && (k==1||k==2||k==3||k==4||k==5 && ft||k==6 && decide (1<=i) && decide (i<=65536)||k==7 && decide (1<=i) && decide (i<=65536))
def inI (st ft:Bool) (v:VV):Value:=if inG st ft v.k v.i then v.ifc else .nilIface
def Ke (k:Int) (b:Bool) (x:Nat) (s:ByteArray) (i:Int):Bool:=inG (Uf k b x s i) (Vh s) k i
def Za0 (v:VV):Value:=inI (Uf v.k v.b v.x v.s v.i) (Vh v.s) v
def VV.good (v:VV):Bool:=Ke v.k v.b v.x v.s v.i
theorem five {w w1:World} {c0 c1 c2 c3 c4:Value} {t:TypeId} (hb:Below (w.alloc (Obj.cells #[c0,c1,c2,c3,c4] t)).heap.size (w.alloc (Obj.cells #[c0,c1,c2,c3,c4] t)) w1):
  w1.cell? ⟨w.heap.size,0,none⟩=some c0/\w1.cell? ⟨w.heap.size,1,none⟩=some c1/\w1.cell? ⟨w.heap.size,2,none⟩=some c2/\w1.cell? ⟨w.heap.size,3,none⟩=some c3/\w1.cell? ⟨w.heap.size,4,none⟩=some c4/\
  Below w.heap.size w w1/\w.heap.size<w1.heap.size:=by
 have h0:=hb.cell (p:=⟨w.heap.size,0,none⟩) (by simp)
 have h1:=hb.cell (p:=⟨w.heap.size,1,none⟩) (by simp)
 have h2:=hb.cell (p:=⟨w.heap.size,2,none⟩) (by simp)
 have h3:=hb.cell (p:=⟨w.heap.size,3,none⟩) (by simp)
 have h4:=hb.cell (p:=⟨w.heap.size,4,none⟩) (by simp)
 simp[go_sem] at h0 h1 h2 h3 h4
 refine⟨h0,h1,h2,h3,h4,((Below.refl _ _).alloc (Nat.le_refl _) _).trans (hb.mono (by simp)), ?_⟩
 have:=hb.size
 simp at this
 omega
theorem Mk (k:Int) (b:Bool) (x:Nat) (s:ByteArray) (i:Int) (w:World) (hT:Lib.Utf8Tabs 4 5 w):
  Calls Tryz.prog 48 #[.agg #[.int .i64 k, .bool b, .float .f64 x, .string s, .int .i64 i]] w fun e w'=>e= .returned (.tuple #[Za0 ⟨k,b,x,s,i⟩, .bool (Ke k b x s i)])/\Below w.heap.size w w':=by
 have HS:=Ab (fun w=>Zbu k b x s i w)
 have HF:=Ab (fun w (hT:Lib.Utf8Tabs 4 5 w)=>fits_any s w hT)
 have HT:=Ab hT
 clear hT
 unfold Ke Za0
 dsimp only
 generalize Uf k b x s i=st at *
 generalize Vh s=ft at *
 cases st
 ·by_cases e5:k=5
  ·subst e5
   go_enter Tryz.func48,Tryz.ntmps48
   go_wp2_with fail
   refine(Aa HS _).mono ?_
   rintro e w1 ⟨rfl,hb⟩
   obtain⟨c0,c1,c2,c3,c4,hB,hsz⟩:=five hb
   clear hb
   go_wp2_with fail
   refine(Aa HF _ (Ao (Aa HT) hB)).mono ?_
   rintro e w2 ⟨rfl,hb2⟩
   have d3:=hb2.cell (p:=⟨w.heap.size,3,none⟩) hsz
   rw[c3] at d3
   cases ft
   ·have d0:=hb2.cell (p:=⟨w.heap.size,0,none⟩) hsz
    rw[c0] at d0
    go_wp2
    go_ret2
    exact⟨by simp[inG,inI],hB.trans (hb2.mono hB.size)⟩
   ·go_wp2
    go_ret2
    exact⟨by simp[inG,inI,VV.ifc],hB.trans (hb2.mono hB.size)⟩
  ·have hk:k=1∨k=2∨k=3∨k=4∨k=6∨k=7∨(k==1)=false/\(k==2)=false/\(k==3)=false/\(k==4)=false/\(k==5)=false/\(k==6)=false/\(k==7)=false:=by
    simp only[beq_eq_false_iff_ne]
    omega
   clear e5 HF HT
   rcases hk with rfl|rfl|rfl|rfl|rfl|rfl|⟨e1,e2,e3,e4,e5,e6,e7⟩
   all_goals
    go_enter Tryz.func48,Tryz.ntmps48
    go_wp2_with fail
    refine(Aa HS _).mono ?_
    rintro e w1 ⟨rfl,hb⟩
    obtain⟨c0,c1,c2,c3,c4,hB,hsz⟩:=five hb
    clear hb HS
    go_wp2
    all_goals
     go_ret2
     refine⟨?_,hB⟩
     simp[inG,inI,VV.ifc, *]
     try omega
 ·go_enter Tryz.func48,Tryz.ntmps48
  go_wp2_with fail
  refine(Aa HS _).mono ?_
  rintro e w1 ⟨rfl,hb⟩
  obtain⟨c0,c1,c2,c3,c4,hB,hsz⟩:=five hb
  go_wp2
  go_ret2
  exact⟨by simp[inG,inI],hB⟩
theorem Qb {s:ByteArray} (h:s.toList.isEmpty=true):s=ByteArray.empty:=by
 cases s with
 |mk d=>
  rw[Lib.toList_data] at h
  have:d.toList= []:=by simpa using h
  have h2:d= #[]:=Array.toList_inj.1 (by simpa using this)
  subst h2;rfl
theorem Ey {k:Int} {b:Bool} {x:Nat} {s:ByteArray} {i:Int} (h:Ke k b x s i=true):
  (k=1/\b=false/\x=0/\s=ByteArray.empty/\i=0)∨(k=2/\b=false/\x=0/\s=ByteArray.empty/\i=0)∨(k=3/\x=0/\s=ByteArray.empty/\i=0)∨(k=4/\b=false/\s=ByteArray.empty/\i=0)∨
  (k=5/\b=false/\x=0/\i=0/\Vh s=true)∨(k=6/\b=false/\x=0/\s=ByteArray.empty/\1<=i/\i<=65536)∨(k=7/\b=false/\x=0/\s=ByteArray.empty/\1<=i/\i<=65536):=by
 have hs:= @Qb s
 unfold Ke inG Uf at h
 generalize Vh s=ft at *
 generalize s.toList.isEmpty=q at *
 have hk:k=1∨k=2∨k=3∨k=4∨k=5∨k=6∨k=7:=by
  simp at h
  omega
 rcases hk with rfl|rfl|rfl|rfl|rfl|rfl|rfl<;>cases b<;>cases q<;>simp at h hs<;>simp[h,hs]
theorem Yn (s:ByteArray) (w:World) (h:s.size<=1048576):Calls Tryz.prog 59 #[.string s] w fun e w'=>e= .returned (.string s)/\Below w.heap.size w w':=by
 have HC:=Ab (Tryz.stringslite_Clone s w (by omega))
 go_enter Tryz.func59,Tryz.ntmps59
 go_wp2_with fail
 refine(Aa HC).mono ?_
 rintro e w1 ⟨rfl,hb⟩
 go_wp2
 go_ret
 exact⟨rfl,hb⟩
