import Derived.Test.YthcmamjpfigdfaaGreatDoorQg
import Derived.Test.YthcmamjpfigdfaaGreatDoorQi
set_option linter.all false
namespace Go.Proofs.YthcmamjpfigdfaaGreatDoor
set_option maxRecDepth 100000
set_option maxHeartbeats 0
section
open Go.RowKit FM
attribute [local go_sem] Gt Dv
theorem ZdP (x:Nat) (hx:x<2^64):(FloatKind.f64.format.order x 0==some .eq)=(decide (x=0)||decide (x=9223372036854775808)):=by
 rw[eq_order x 0 hx (by decide)]
 unfold ZeA Zd4 Ew
 have e1:isN 0=false:=by decide+kernel
 have e2:sz 0=0:=by decide+kernel
 rw[e1,e2]
 by_cases h:sz x=0
 ·rw[sz0_nan h]
  unfold sz at h
  have:x=0∨x=9223372036854775808:=by omega
  rcases this with rfl|rfl<;>simp[sz]
 ·have h1: ¬x=0:=by rintro rfl;exact h e2
  have h2: ¬x=9223372036854775808:=by rintro rfl;exact h (by decide+kernel)
  simp[h,h1,h2]
theorem quo_pos (w:World):(binOp .quo 38 (.float .f64 4607182418800017408) (.float .f64 0)).run Tryz.prog w= .ok (.float .f64 9218868437227405312) w:=by kernel_rfl
theorem quo_neg (w:World):(binOp .quo 38 (.float .f64 4607182418800017408) (.float .f64 9223372036854775808)).run Tryz.prog w= .ok (.float .f64 18442240474082181120) w:=by kernel_rfl
structure Five (w:World) (B:Nat) (c0 c1 c2 c3 c4:Value):Prop where
 h0:w.cell? ⟨B,0,none⟩=some c0
 h1:w.cell? ⟨B,1,none⟩=some c1
 h2:w.cell? ⟨B,2,none⟩=some c2
 h3:w.cell? ⟨B,3,none⟩=some c3
 h4:w.cell? ⟨B,4,none⟩=some c4
 fz: ∀j,w.frozen? ⟨B,j,none⟩=false
 lt:B<w.heap.size
theorem Vj (w:World) (B:Nat) (c0 c1 c2 c3 c4:Value) (t:TypeId) (hB:B=w.heap.size):Five (w.alloc (Obj.cells #[c0,c1,c2,c3,c4] t)) B c0 c1 c2 c3 c4:=by
 subst hB
 refine⟨?_, ?_, ?_, ?_, ?_,fun j=> ?_, ?_⟩<;>simp[go_sem]
theorem Ot {w w':World} {B:Nat} {c0 c1 c2 c3 c4:Value} (h:Five w B c0 c1 c2 c3 c4) (hb:Below w.heap.size w w'):Five w' B c0 c1 c2 c3 c4:=
 ⟨(hb.cell h.lt).trans h.h0,(hb.cell h.lt).trans h.h1,(hb.cell h.lt).trans h.h2,(hb.cell h.lt).trans h.h3,(hb.cell h.lt).trans h.h4,fun j=>(hb.frozen h.lt).trans (h.fz j),Nat.lt_of_lt_of_le h.lt hb.size⟩
theorem set5 {w W:World} {B:Nat} {v0 v1 v2 v3 v4:Value} (h:Below w.heap.size w W)  (hB:w.heap.size<=B:=by omega):
  Below w.heap.size w (((((W.setCell ⟨B,0,none⟩ v0).setCell ⟨B,1,none⟩ v1).setCell ⟨B,2,none⟩ v2).setCell ⟨B,3,none⟩ v3).setCell ⟨B,4,none⟩ v4):=
 ((((h.setCell hB _).setCell hB _).setCell hB _).setCell hB _).setCell hB _

def Za (b:Bool):Int:=if b then 0 else 5
theorem Mc (v:VV) (w:World) (hT:Lib.Utf8Tabs 1 2 w):Calls Tryz.prog 90 #[v.agg] w fun e w'=>e= .returned (.int .i64 (Za v.good))/\Below w.heap.size w w':=by
 have HI:=Ab (Oo v.k v.b v.x v.s v.i)
 have HT:=Ab hT
 clear hT
 unfold VV.good
 generalize Ml v.k v.b v.x v.s v.i=g at *
 generalize Zdq ⟨v.k,v.b,v.x,v.s,v.i⟩=f at *
 obtain⟨k,b,x,s,i⟩:=v
 unfold VV.agg at *
 dsimp only at *
 cases g
 all_goals
  go_enter Tryz.func90,Tryz.ntmps90
  go_wp2_with fail
  refine(Aa HI _ (Ao (Aa HT) ((Below.refl _ _).alloc (Nat.le_refl _) _))).mono ?_
  rintro e w1 ⟨rfl,hb⟩
  go_wp2
  go_ret
  exact⟨rfl,((Below.refl _ _).alloc (Nat.le_refl _) _).trans (hb.mono (by simp))⟩
