import Derived.Test.YtlpdllcedgnaaaaGreatDoorQc
import Derived.Test.YtlpdllcedgnaaaaGreatDoorChecked
import Derived.WalkSpells
import Derived.WalkLawsBesides
import Derived.Laws.BitsAllLaws
set_option linter.all false
namespace Go.Proofs.YtlpdllcedgnaaaaGreatDoor
set_option maxRecDepth 100000
set_option maxHeartbeats 0
section
open Go.RowKit FM
theorem Gk (b:Nat) (w:World):(callFunc 115 #[.float .f64 b]).run Tryz.prog w= .ok (.value (.int .u64 (b:Int))) w:=by
 rw[run_callFunc_extern Tryz.func115 (by kernel_rfl) (by kernel_rfl) (by kernel_rfl) (e:=Extern.MathFloatBits.float64bits) (by kernel_rfl)];rfl
attribute [local go_sem] Gk
theorem rb {a b:Bool} (h:a=b):Ending.returned (.bool a)=Ending.returned (.bool b):=by rw[h]
theorem Ep (b:Nat) (w:World):Calls Tryz.prog 141 #[.float .f64 b] w fun e w'=>e= .returned (.bool (isN b))/\w'=w:=by
 go_enter Tryz.func141,Tryz.ntmps141
 go_wp2
 go_ret
 exact⟨by rw[←nanF];rfl,rfl⟩
def Jr (x y:Nat):Bool:=(isN x && isN y)||decide (x=y)
def Zbt (x y:Nat):Bool:=Jr x y||(decide (sz x=0) && decide (sz y=0))
def ZbN (x y:Nat):Bool:= !isN x && !isN y && Zbt x y
theorem fo (x y:Nat):FloatKind.f64.format.order x y=Ieee.double.order x y:=rfl
theorem sz0_nan {b:Nat} (h:sz b=0):isN b=false:=by
 unfold isN;rw[h];decide

theorem same_any (x y:Nat) (w:World):Calls Tryz.prog 139 #[.float .f64 x, .float .f64 y] w fun e w'=>e= .returned (.bool (Jr x y))/\w'=w:=by
 cases hx:isN x
 ·cases hy:isN y
  ·go_enter Tryz.func139,Tryz.ntmps139
   go_wp2_with fail
   refine(Ep x _).mono ?_
   rintro e w' ⟨rfl,rfl⟩
   rw[hx]
   go_wp2_with fail
   refine(Ep y _).mono ?_
   rintro e w' ⟨rfl,rfl⟩
   rw[hy]
   go_wp2
   go_ret
   refine⟨rb ?_,rfl⟩
   unfold Jr
   rw[hx,hy,Bool.eq_iff_iff]
   simp
   omega
  ·go_enter Tryz.func139,Tryz.ntmps139
   go_wp2_with fail
   refine(Ep x _).mono ?_
   rintro e w' ⟨rfl,rfl⟩
   rw[hx]
   go_wp2_with fail
   refine(Ep y _).mono ?_
   rintro e w' ⟨rfl,rfl⟩
   rw[hy]
   go_wp2_with fail
   refine(Ep x _).mono ?_
   rintro e w' ⟨rfl,rfl⟩
   rw[hx]
   go_wp2
   go_ret
   refine⟨rb ?_,rfl⟩
   unfold Jr
   have hne:x≠y:=fun e=>by rw[e,hy] at hx;cases hx
   simp[hx,hne]
 ·cases hy:isN y
  ·go_enter Tryz.func139,Tryz.ntmps139
   go_wp2_with fail
   refine(Ep x _).mono ?_
   rintro e w' ⟨rfl,rfl⟩
   rw[hx]
   go_wp2_with fail
   refine(Ep x _).mono ?_
   rintro e w' ⟨rfl,rfl⟩
   rw[hx]
   go_wp2_with fail
   refine(Ep y _).mono ?_
   rintro e w' ⟨rfl,rfl⟩
   rw[hy]
   go_wp2
   go_ret
   refine⟨rb ?_,rfl⟩
   unfold Jr
   have hne:x≠y:=fun e=>by rw[e,hy] at hx;cases hx
   simp[hy,hne]
  ·go_enter Tryz.func139,Tryz.ntmps139
   go_wp2_with fail
   refine(Ep x _).mono ?_
   rintro e w' ⟨rfl,rfl⟩
   rw[hx]
   go_wp2_with fail
   refine(Ep x _).mono ?_
   rintro e w' ⟨rfl,rfl⟩
   rw[hx]
   go_wp2_with fail
   refine(Ep y _).mono ?_
   rintro e w' ⟨rfl,rfl⟩
   rw[hy]
   go_wp2
   go_ret
   refine⟨rb ?_,rfl⟩
   simp[Jr,hx,hy]
theorem eq_order (x y:Nat) (hx64:x<2^64) (hy64:y<2^64):(FloatKind.f64.format.order x y==some .eq)=ZbN x y:=by
 rw[fo,eqF x y hx64 hy64]
 unfold ZbN Zbt Jr
 cases isN x<;>cases isN y<;>simp
