import Derived.Test.YthcmamjpfigdfaaGreatDoorQd
import Derived.Test.YthcmamjpfigdfaaGreatDoorQe
import Derived.Test.YthcmamjpfigdfaaGreatDoorChecked
import Derived.WalkSpells
import Derived.WalkLawsBesides
import Derived.Laws.BitsAllLaws
set_option linter.all false
namespace Go.Proofs.YthcmamjpfigdfaaGreatDoor
set_option maxRecDepth 100000
set_option maxHeartbeats 0
section
open Go.RowKit FM
theorem Gt (b:Nat) (w:World):(callFunc 46 #[.float .f64 b]).run Tryz.prog w= .ok (.value (.int .u64 (b:Int))) w:=by
 rw[run_callFunc_extern Tryz.func46 (by kernel_rfl) (by kernel_rfl) (by kernel_rfl) (e:=Extern.MathFloatBits.float64bits) (by kernel_rfl)];rfl
attribute [local go_sem] Gt
theorem rb {a b:Bool} (h:a=b):Ending.returned (.bool a)=Ending.returned (.bool b):=by rw[h]
theorem Gq (b:Nat) (w:World):Calls Tryz.prog 177 #[.float .f64 b] w fun e w'=>e= .returned (.bool (isN b))/\w'=w:=by
 go_enter Tryz.func177,Tryz.ntmps177
 go_wp2
 go_ret
 exact⟨by rw[←nanF];rfl,rfl⟩
def Ew (x y:Nat):Bool:=(isN x && isN y)||decide (x=y)
def Zd4 (x y:Nat):Bool:=Ew x y||(decide (sz x=0) && decide (sz y=0))
def ZeA (x y:Nat):Bool:= !isN x && !isN y && Zd4 x y
theorem fo (x y:Nat):FloatKind.f64.format.order x y=Ieee.double.order x y:=rfl
theorem sz0_nan {b:Nat} (h:sz b=0):isN b=false:=by
 unfold isN;rw[h];decide

theorem same_any (x y:Nat) (w:World):Calls Tryz.prog 170 #[.float .f64 x, .float .f64 y] w fun e w'=>e= .returned (.bool (Ew x y))/\w'=w:=by
 cases hx:isN x
 ·cases hy:isN y
  ·go_enter Tryz.func170,Tryz.ntmps170
   go_wp2_with fail
   refine(Gq x _).mono ?_
   rintro e w' ⟨rfl,rfl⟩
   rw[hx]
   go_wp2_with fail
   refine(Gq y _).mono ?_
   rintro e w' ⟨rfl,rfl⟩
   rw[hy]
   go_wp2
   go_ret
   refine⟨rb ?_,rfl⟩
   unfold Ew
   rw[hx,hy,Bool.eq_iff_iff]
   simp
   omega
  ·go_enter Tryz.func170,Tryz.ntmps170
   go_wp2_with fail
   refine(Gq x _).mono ?_
   rintro e w' ⟨rfl,rfl⟩
   rw[hx]
   go_wp2_with fail
   refine(Gq y _).mono ?_
   rintro e w' ⟨rfl,rfl⟩
   rw[hy]
   go_wp2_with fail
   refine(Gq x _).mono ?_
   rintro e w' ⟨rfl,rfl⟩
   rw[hx]
   go_wp2
   go_ret
   refine⟨rb ?_,rfl⟩
   unfold Ew
   have hne:x≠y:=fun e=>by rw[e,hy] at hx;cases hx
   simp[hx,hne]
 ·cases hy:isN y
  ·go_enter Tryz.func170,Tryz.ntmps170
   go_wp2_with fail
   refine(Gq x _).mono ?_
   rintro e w' ⟨rfl,rfl⟩
   rw[hx]
   go_wp2_with fail
   refine(Gq x _).mono ?_
   rintro e w' ⟨rfl,rfl⟩
   rw[hx]
   go_wp2_with fail
   refine(Gq y _).mono ?_
   rintro e w' ⟨rfl,rfl⟩
   rw[hy]
   go_wp2
   go_ret
   refine⟨rb ?_,rfl⟩
   unfold Ew
   have hne:x≠y:=fun e=>by rw[e,hy] at hx;cases hx
   simp[hy,hne]
  ·go_enter Tryz.func170,Tryz.ntmps170
   go_wp2_with fail
   refine(Gq x _).mono ?_
   rintro e w' ⟨rfl,rfl⟩
   rw[hx]
   go_wp2_with fail
   refine(Gq x _).mono ?_
   rintro e w' ⟨rfl,rfl⟩
   rw[hx]
   go_wp2_with fail
   refine(Gq y _).mono ?_
   rintro e w' ⟨rfl,rfl⟩
   rw[hy]
   go_wp2
   go_ret
   refine⟨rb ?_,rfl⟩
   simp[Ew,hx,hy]
theorem eq_order (x y:Nat) (hx64:x<2^64) (hy64:y<2^64):(FloatKind.f64.format.order x y==some .eq)=ZeA x y:=by
 rw[fo,eqF x y hx64 hy64]
 unfold ZeA Zd4 Ew
 cases isN x<;>cases isN y<;>simp
end
section
open Go.RowKit
attribute [local go_sem] Gt
structure VV where
 k:Int
 b:Bool
 x:Nat
 s:ByteArray
 i:Int
def VV.agg (v:VV):Value:= .agg #[.int .i64 v.k, .bool v.b, .float .f64 v.x, .string v.s, .int .i64 v.i]
def VV.ifc (v:VV):Value:=
 if v.k=1 then .iface 227 (.agg #[]) else if v.k=2 then .iface 228 (.agg #[]) else if v.k=3 then .iface 229 (.bool v.b) else if v.k=4 then .iface 230 (.float .f64 v.x)
 else if v.k=5 then .iface 232 (.string v.s) else if v.k=6 then .iface 233 (.int .i64 v.i) else .iface 234 (.int .i64 v.i)
def Zbc (k:Int) (b:Bool) (x:Nat) (s:ByteArray) (i:Int):Bool:=
 b && k !=3||x !=0 && k !=4|| !s.toList.isEmpty && k !=5||i !=0 && k !=6 && k !=7

theorem ZdW (k:Int) (b:Bool) (x:Nat) (s:ByteArray) (i:Int) (w:World):
  Calls Tryz.prog 154 #[.agg #[.int .i64 k, .bool b, .float .f64 x, .string s, .int .i64 i]] w fun e w'=>e= .returned (.bool (Zbc k b x s i))/\Below w.heap.size w w':=by
 unfold Zbc
 cases b
 all_goals
  go_enter Tryz.func154,Tryz.ntmps154
  go_wp2
  all_goals
   go_ret
   refine⟨?_,(Below.refl _ _).alloc (Nat.le_refl _) _⟩
   simp[*]
def ZaL (s:ByteArray):Bool:=decide (s.size<=1048576) && M.valid false (Dq s)
theorem fits_any (s:ByteArray) (w:World) (hT:Lib.Utf8Tabs 1 2 w):
  Calls Tryz.prog 155 #[.string s] w fun e w'=>e= .returned (.bool (ZaL s))/\Below w.heap.size w w':=by
 have HV:=Ab (ZfM s w hT)
 clear hT
 unfold ZaL
 by_cases h:s.size<=1048576
 ·have h':(s.size:Int)<=1048576:=by omega
  go_enter Tryz.func155,Tryz.ntmps155
  go_wp2_with fail
  refine(Aa HV).mono ?_
  rintro e w1 ⟨rfl,hb⟩
  go_wp2
  go_ret
  refine⟨?_,hb⟩
  rw[decide_eq_true h]
  rfl
 ·have h': ¬(s.size:Int)<=1048576:=by omega
  go_enter Tryz.func155,Tryz.ntmps155
  go_wp2
  go_ret
  exact⟨rfl,Below.refl _ _⟩
def inG (st ft:Bool) (k i:Int):Bool:=
 !st && (k==1||k==2||k==3||k==4||k==5 && ft||k==6 && decide (1<=i) && decide (i<=65536)||k==7 && decide (1<=i) && decide (i<=65536))
def inI (st ft:Bool) (v:VV):Value:=if inG st ft v.k v.i then v.ifc else .nilIface
def Ml (k:Int) (b:Bool) (x:Nat) (s:ByteArray) (i:Int):Bool:=inG (Zbc k b x s i) (ZaL s) k i
def Zdq (v:VV):Value:=inI (Zbc v.k v.b v.x v.s v.i) (ZaL v.s) v
def VV.good (v:VV):Bool:=Ml v.k v.b v.x v.s v.i
theorem five {w w1:World} {c0 c1 c2 c3 c4:Value} {t:TypeId} (hb:Below (w.alloc (Obj.cells #[c0,c1,c2,c3,c4] t)).heap.size (w.alloc (Obj.cells #[c0,c1,c2,c3,c4] t)) w1):
  w1.cell? ⟨w.heap.size,0,none⟩=some c0/\w1.cell? ⟨w.heap.size,1,none⟩=some c1/\w1.cell? ⟨w.heap.size,2,none⟩=some c2/\w1.cell? ⟨w.heap.size,3,none⟩=some c3/\w1.cell? ⟨w.heap.size,4,none⟩=some c4/\
  Below w.heap.size w w1/\w.heap.size<w1.heap.size:=by
 have h0:=hb.cell (p:=⟨w.heap.size,0,none⟩) (by simp)
 have h1:=hb.cell (p:=⟨w.heap.size,1,none⟩) (by simp)
 have h2:=hb.cell (p:=⟨w.heap.size,2,none⟩) (by simp)
 have h3:=hb.cell (p:=⟨w.heap.size,3,none⟩) (by simp)
 have h4:=hb.cell (p:=⟨w.heap.size,4,none⟩) (by simp)
 simp[go_sem] at h0 h1 h2 h3 h4
 refine⟨h0,h1,h2,h3,h4,((Below.refl _ _).alloc (Nat.le_refl _) _).trans (hb.mono (by simp)), ?_⟩
 have:=hb.size
 simp at this
 omega
theorem Oo (k:Int) (b:Bool) (x:Nat) (s:ByteArray) (i:Int) (w:World) (hT:Lib.Utf8Tabs 1 2 w):
  Calls Tryz.prog 134 #[.agg #[.int .i64 k, .bool b, .float .f64 x, .string s, .int .i64 i]] w fun e w'=>e= .returned (.tuple #[Zdq ⟨k,b,x,s,i⟩, .bool (Ml k b x s i)])/\Below w.heap.size w w':=by
 have HS:=Ab (fun w=>ZdW k b x s i w)
 have HF:=Ab (fun w (hT:Lib.Utf8Tabs 1 2 w)=>fits_any s w hT)
 have HT:=Ab hT
 clear hT
 unfold Ml Zdq
 dsimp only
 generalize Zbc k b x s i=st at *
 generalize ZaL s=ft at *
 cases st
 ·by_cases e5:k=5
  ·subst e5
   go_enter Tryz.func134,Tryz.ntmps134
   go_wp2_with fail
   refine(Aa HS _).mono ?_
   rintro e w1 ⟨rfl,hb⟩
   obtain⟨c0,c1,c2,c3,c4,hB,hsz⟩:=five hb
   clear hb
   go_wp2_with fail
   refine(Aa HF _ (Ao (Aa HT) hB)).mono ?_
   rintro e w2 ⟨rfl,hb2⟩
   have d3:=hb2.cell (p:=⟨w.heap.size,3,none⟩) hsz
   rw[c3] at d3
   cases ft
   ·have d0:=hb2.cell (p:=⟨w.heap.size,0,none⟩) hsz
    rw[c0] at d0
    go_wp2
    go_ret2
    exact⟨by simp[inG,inI],hB.trans (hb2.mono hB.size)⟩
   ·go_wp2
    go_ret2
    exact⟨by simp[inG,inI,VV.ifc],hB.trans (hb2.mono hB.size)⟩
  ·have hk:k=1∨k=2∨k=3∨k=4∨k=6∨k=7∨(k==1)=false/\(k==2)=false/\(k==3)=false/\(k==4)=false/\(k==5)=false/\(k==6)=false/\(k==7)=false:=by
    simp only[beq_eq_false_iff_ne]
    omega
   clear e5 HF HT
   rcases hk with rfl|rfl|rfl|rfl|rfl|rfl|⟨e1,e2,e3,e4,e5,e6,e7⟩
   all_goals
    go_enter Tryz.func134,Tryz.ntmps134
    go_wp2_with fail
    refine(Aa HS _).mono ?_
    rintro e w1 ⟨rfl,hb⟩
    obtain⟨c0,c1,c2,c3,c4,hB,hsz⟩:=five hb
    clear hb HS
    go_wp2
    all_goals
     go_ret2
     refine⟨?_,hB⟩
     simp[inG,inI,VV.ifc, *]
     try omega
 ·go_enter Tryz.func134,Tryz.ntmps134
  go_wp2_with fail
  refine(Aa HS _).mono ?_
  rintro e w1 ⟨rfl,hb⟩
  obtain⟨c0,c1,c2,c3,c4,hB,hsz⟩:=five hb
  go_wp2
  go_ret2
  exact⟨by simp[inG,inI],hB⟩
theorem Nx {s:ByteArray} (h:s.toList.isEmpty=true):s=ByteArray.empty:=by
 cases s with
 |mk d=>
  rw[Lib.toList_data] at h
  have:d.toList= []:=by simpa using h
  have h2:d= #[]:=Array.toList_inj.1 (by simpa using this)
  subst h2;rfl
theorem Ey {k:Int} {b:Bool} {x:Nat} {s:ByteArray} {i:Int} (h:Ml k b x s i=true):
  (k=1/\b=false/\x=0/\s=ByteArray.empty/\i=0)∨(k=2/\b=false/\x=0/\s=ByteArray.empty/\i=0)∨(k=3/\x=0/\s=ByteArray.empty/\i=0)∨(k=4/\b=false/\s=ByteArray.empty/\i=0)∨
  (k=5/\b=false/\x=0/\i=0/\ZaL s=true)∨(k=6/\b=false/\x=0/\s=ByteArray.empty/\1<=i/\i<=65536)∨(k=7/\b=false/\x=0/\s=ByteArray.empty/\1<=i/\i<=65536):=by
 have hs:= @Nx s
 unfold Ml inG Zbc at h
 generalize ZaL s=ft at *
 generalize s.toList.isEmpty=q at *
 have hk:k=1∨k=2∨k=3∨k=4∨k=5∨k=6∨k=7:=by
  simp at h
  omega
 rcases hk with rfl|rfl|rfl|rfl|rfl|rfl|rfl<;>cases b<;>cases q<;>simp at h hs<;>simp[h,hs]
theorem ZbM (s:ByteArray) (w:World) (h:s.size<=1048576):Calls Tryz.prog 146 #[.string s] w fun e w'=>e= .returned (.string s)/\Below w.heap.size w w':=by
 have HC:=Ab (Tryz.stringslite_Clone s w (by omega))
 go_enter Tryz.func146,Tryz.ntmps146
 go_wp2_with fail
 refine(Aa HC).mono ?_
 rintro e w1 ⟨rfl,hb⟩
 go_wp2
 go_ret
 exact⟨rfl,hb⟩
