import Derived.Test.YthjnflilfjcgiaaGreatFmtQg
import Derived.Test.YthjnflilfjcgiaaGreatFmtQh
import Derived.Stop.Asserts
set_option linter.all false
namespace Go.Proofs.YthjnflilfjcgiaaGreatFmt
set_option maxRecDepth 100000
set_option maxHeartbeats 0
section
open Go.RowKit FM
attribute [local go_sem] bits_run run_store_floatD
theorem zero_order (x:Nat) (hx:x<2^64):(FloatKind.f64.format.order x 0==some .eq)=(decide (x=0)||decide (x=9223372036854775808)):=by
 rw[eq_order x 0 hx (by decide)]
 unfold equalV same0V sameV
 have e1:isN 0=false:=by decide+kernel
 have e2:sz 0=0:=by decide+kernel
 rw[e1,e2]
 by_cases h:sz x=0
 ·rw[sz0_nan h]
  unfold sz at h
  have:x=0∨x=9223372036854775808:=by omega
  rcases this with rfl|rfl<;>simp[sz]
 ·have h1: ¬x=0:=by rintro rfl;exact h e2
  have h2: ¬x=9223372036854775808:=by rintro rfl;exact h (by decide+kernel)
  simp[h,h1,h2]
theorem quo_pos (w:World):(binOp .quo 33 (.float .f64 4607182418800017408) (.float .f64 0)).run Tryz.prog w= .ok (.float .f64 9218868437227405312) w:=by kernel_rfl
theorem quo_neg (w:World):(binOp .quo 33 (.float .f64 4607182418800017408) (.float .f64 9223372036854775808)).run Tryz.prog w= .ok (.float .f64 18442240474082181120) w:=by kernel_rfl
structure Five (w:World) (B:Nat) (c0 c1 c2 c3 c4:Value):Prop where
 h0:w.cell? ⟨B,0,none⟩=some c0
 h1:w.cell? ⟨B,1,none⟩=some c1
 h2:w.cell? ⟨B,2,none⟩=some c2
 h3:w.cell? ⟨B,3,none⟩=some c3
 h4:w.cell? ⟨B,4,none⟩=some c4
 fz: ∀j,w.frozen? ⟨B,j,none⟩=false
 lt:B<w.heap.size
theorem five_new (w:World) (B:Nat) (c0 c1 c2 c3 c4:Value) (t:TypeId) (hB:B=w.heap.size):Five (w.alloc (Obj.cells #[c0,c1,c2,c3,c4] t)) B c0 c1 c2 c3 c4:=by
 subst hB
 refine⟨?_, ?_, ?_, ?_, ?_,fun j=> ?_, ?_⟩<;>simp[go_sem]
theorem five_below {w w':World} {B:Nat} {c0 c1 c2 c3 c4:Value} (h:Five w B c0 c1 c2 c3 c4) (hb:Below w.heap.size w w'):Five w' B c0 c1 c2 c3 c4:=
 ⟨(hb.cell h.lt).trans h.h0,(hb.cell h.lt).trans h.h1,(hb.cell h.lt).trans h.h2,(hb.cell h.lt).trans h.h3,(hb.cell h.lt).trans h.h4,fun j=>(hb.frozen h.lt).trans (h.fz j),Nat.lt_of_lt_of_le h.lt hb.size⟩
theorem set5 {w W:World} {B:Nat} {v0 v1 v2 v3 v4:Value} (h:Below w.heap.size w W) (hB:w.heap.size<=B):
  Below w.heap.size w (((((W.setCell ⟨B,0,none⟩ v0).setCell ⟨B,1,none⟩ v1).setCell ⟨B,2,none⟩ v2).setCell ⟨B,3,none⟩ v3).setCell ⟨B,4,none⟩ v4):=
 ((((h.setCell hB _).setCell hB _).setCell hB _).setCell hB _).setCell hB _

def errB (b:Bool):Int:=if b then 0 else 5
theorem check_any (v:VV) (w:World) (hT:Lib.Utf8Tabs 4 5 w):Calls Tryz.prog 20 #[v.agg] w fun e w'=>e= .returned (.int .i64 (errB v.good))/\Below w.heap.size w w':=by
 have HI:=hide (inside_any v.k v.b v.x v.s v.i)
 have HT:=hide hT
 clear hT
 unfold VV.good
 generalize goodV v.k v.b v.x v.s v.i=g at *
 generalize ifcV ⟨v.k,v.b,v.x,v.s,v.i⟩=f at *
 obtain⟨k,b,x,s,i⟩:=v
 unfold VV.agg at *
 dsimp only at *
 cases g
 all_goals
  go_enter Tryz.func20,Tryz.ntmps20
  go_wp2_with fail
  refine(uh HI _ (tabs_below (uh HT) ((Below.refl _ _).alloc (Nat.le_refl _) _))).mono ?_
  rintro e w1 ⟨rfl,hb⟩
  go_wp2
  go_ret
  exact⟨rfl,((Below.refl _ _).alloc (Nat.le_refl _) _).trans (hb.mono (by simp))⟩
theorem undefined_any (w:World):Calls Tryz.prog 113 #[] w fun e w'=>e= .returned (VV.agg ⟨1,false,0,ByteArray.empty,0⟩)/\Below w.heap.size w w':=by
 have HO:=hide (outside1)
 unfold VV.agg at *
 dsimp only at *
 go_enter Tryz.func113,Tryz.ntmps113
 go_wp2_with fail
 refine(uh HO _).mono ?_
 rintro e w1 ⟨rfl,hb⟩
 have hB:=((Below.refl w.heap.size w).alloc (Nat.le_refl _) _).trans (hb.mono (by simp))
 obtain⟨r0,r1,r2,r3,r4,rf,rl⟩:=five_below (five_new _ w.heap.size _ _ _ _ _ _ rfl) hb
 clear hb HO
 go_wp2
 simp[bodyPost,results,Tryz.results113,go_sem,r0,r1,r2,r3,r4]
 exact set5 hB (by omega)
def eqB (a b:VV):Bool:=(decide (a.x=b.x)||isN a.x && isN b.x) && a.k==b.k && a.b==b.b && decide (a.s.toList=b.s.toList) && a.i==b.i
theorem eq_any (a b:VV) (w:World):Calls Tryz.prog 14 #[a.agg,b.agg] w fun e w'=>e= .returned (.bool (eqB a b))/\Below w.heap.size w w':=by
 have ha:=nanF a.x
 have hb:=nanF b.x
 obtain⟨k,b,x,s,i⟩:=a
 rename_i b'
 obtain⟨k',c,x',s',i'⟩:=b'
 unfold VV.agg
 dsimp only at *
 rw[←fo] at ha hb
 have hg:eqB ⟨k,b,x,s,i⟩ ⟨k',c,x',s',i'⟩=((decide (x=x')||isN x && isN x') && k==k' && b==c && decide (s.toList=s'.toList) && i==i'):=rfl
 rw[hg]
 clear hg
 generalize isN x=nx at *
 generalize isN x'=nx' at *
 cases nx
 ·by_cases hx:x=x'
  ·subst hx
   go_enter Tryz.func14,Tryz.ntmps14
   go_wp2
   go_quiet (fail)
   go_wp2
   all_goals
    go_ret
    refine⟨?_,(below2 w _ _).trans (below_drewN' _ _ _)⟩
    simp[*]
  ·have hxi:((x:Int)==(x':Int))=false:=by rw[beq_eq_false_iff_ne];omega
   go_enter Tryz.func14,Tryz.ntmps14
   go_wp2
   go_quiet (fail)
   go_wp2
   all_goals
    go_ret
    refine⟨?_,(below2 w _ _).trans (below_drewN' _ _ _)⟩
    simp[*]
 ·by_cases hx:x=x'
  ·subst hx
   go_enter Tryz.func14,Tryz.ntmps14
   go_wp2
   go_quiet (fail)
   go_wp2
   all_goals
    go_ret
    refine⟨?_,(below2 w _ _).trans (below_drewN' _ _ _)⟩
    simp[*]
  ·have hxi:((x:Int)==(x':Int))=false:=by rw[beq_eq_false_iff_ne];omega
   cases nx'
   all_goals
    go_enter Tryz.func14,Tryz.ntmps14
    go_wp2
    go_quiet (fail)
    go_wp2
    all_goals
     go_ret
     refine⟨?_,(below2 w _ _).trans (below_drewN' _ _ _)⟩
     simp[*]
end
section
open Go.RowKit FM
theorem q56 (w:World):(binOp .eql 99 (.iface 133 (.agg #[])) (.iface 133 (.agg #[]))).run Tryz.prog w= .ok (.bool true) w:=by kernel_rfl
theorem q57 (w:World):(binOp .eql 99 (.iface 86 (.agg #[])) (.iface 86 (.agg #[]))).run Tryz.prog w= .ok (.bool true) w:=by kernel_rfl
theorem q58 (a b:Bool) (w:World):(binOp .eql 99 (.iface 114 (.bool a)) (.iface 114 (.bool b))).run Tryz.prog w= .ok (.bool (a==b)) w:=by kernel_rfl
theorem q79 (a b:ByteArray) (w:World):(binOp .eql 99 (.iface 115 (.string a)) (.iface 115 (.string b))).run Tryz.prog w= .ok (.bool (a.toList==b.toList)) w:=by
 rw[←beq_toListBytes];kernel_rfl
theorem q81 (a b:Int) (w:World):(binOp .eql 99 (.iface 117 (.int .i64 a)) (.iface 117 (.int .i64 b))).run Tryz.prog w= .ok (.bool (a==b)) w:=by kernel_rfl
theorem q82 (a b:Int) (w:World):(binOp .eql 99 (.iface 118 (.int .i64 a)) (.iface 118 (.int .i64 b))).run Tryz.prog w= .ok (.bool (a==b)) w:=by kernel_rfl
theorem qne (t u:TypeId) (a b:Value) (w:World) (h:t≠u):(binOp .eql 99 (.iface t a) (.iface u b)).run Tryz.prog w= .ok (.bool false) w:=run_eql_iface_types t u a b Tryz.underlying99 h w
attribute [local go_sem] bits_run run_store_floatD ta56 ta57 ta58 ta59 ta79 ta81 ta82 q56 q57 q58 q79 q81 q82
def tyK (k:Int):TypeId:=if k=1 then 133 else if k=2 then 86 else if k=3 then 114 else if k=4 then 94 else if k=5 then 115 else if k=6 then 117 else 118
def inK (v:VV):Value:=if v.k=1 then .agg #[] else if v.k=2 then .agg #[] else if v.k=3 then .bool v.b else if v.k=4 then .float .f64 v.x else if v.k=5 then .string v.s else .int .i64 v.i
theorem ifc_eq (v:VV):v.ifc= .iface (tyK v.k) (inK v):=by
 unfold VV.ifc tyK inK
 repeat' split
 all_goals rfl
def alikeV (cmp:Nat->Nat->Bool) (a b:VV):Bool:=a.k==b.k && (if a.k=4 then cmp a.x b.x else a.b==b.b && a.s.toList==b.s.toList && a.i==b.i)
theorem alike_num_same (x y:Nat) (w:World):
  Calls Tryz.prog 131 #[.iface 94 (.float .f64 x), .iface 94 (.float .f64 y), .func (.func 130) #[] #[]] w fun e w'=>e= .returned (.bool (sameV x y))/\Below w.heap.size w w':=by
 go_enter Tryz.func131,Tryz.ntmps131
 go_wp2_with fail
 refine(same_any x y _).mono ?_
 rintro e w' ⟨rfl,rfl⟩
 go_wp2
 go_ret
 exact⟨rfl,Below.refl _ _⟩
theorem alike_none (t:TypeId) (x:Nat) (b g:Value) (ht:(t=94)=False) (w:World):
  Calls Tryz.prog 131 #[.iface 94 (.float .f64 x), .iface t b,g] w fun e w'=>e= .returned (.bool false)/\Below w.heap.size w w':=by
 go_enter Tryz.func131,Tryz.ntmps131
 go_wp2
 go_ret
 exact⟨rfl,Below.refl _ _⟩
theorem alike_same (t u:TypeId) (a b:Value) (r:Bool) (g:Value) (ht:(t=94)=False) (hr: ∀w,(binOp .eql 99 (.iface t a) (.iface u b)).run Tryz.prog w= .ok (.bool r) w) (w:World):
  Calls Tryz.prog 131 #[.iface t a, .iface u b,g] w fun e w'=>e= .returned (.bool r)/\Below w.heap.size w w':=by
 go_enter Tryz.func131,Tryz.ntmps131
 go_wp2
 go_ret
 exact⟨rfl,Below.refl _ _⟩
theorem qq {r r':Bool} {w:World} {c:Sem Value} (h:c.run Tryz.prog w= .ok (.bool r) w) (e:r=r'):c.run Tryz.prog w= .ok (.bool r') w:=by rw[h,e]
theorem eql_good (cmp:Nat->Nat->Bool) (a b:VV) (ha:a.good=true) (hb:b.good=true) (h4:a.k≠4) (w:World):(binOp .eql 99 a.ifc b.ifc).run Tryz.prog w= .ok (.bool (alikeV cmp a b)) w:=by
 obtain⟨k,c,x,s,i⟩:=a
 obtain⟨k',c',x',s',i'⟩:=b
 by_cases hk:k=k'
 ·subst hk
  rcases good_cases ha with ⟨rfl,rfl,rfl,rfl,rfl⟩|⟨rfl,rfl,rfl,rfl,rfl⟩|⟨rfl,rfl,rfl,rfl⟩|⟨rfl,rfl,rfl,rfl⟩|⟨rfl,rfl,rfl,rfl, -⟩|⟨rfl,rfl,rfl,rfl, -, -⟩|⟨rfl,rfl,rfl,rfl, -, -⟩
  ·rcases good_cases hb with ⟨-,rfl,rfl,rfl,rfl⟩|⟨h, -⟩|⟨h, -⟩|⟨h, -⟩|⟨h, -⟩|⟨h, -⟩|⟨h, -⟩<;>first|(exfalso;dsimp only at h;omega)|exact qq (q56 w) (by simp[alikeV])
  ·rcases good_cases hb with ⟨h, -⟩|⟨-,rfl,rfl,rfl,rfl⟩|⟨h, -⟩|⟨h, -⟩|⟨h, -⟩|⟨h, -⟩|⟨h, -⟩<;>first|(exfalso;dsimp only at h;omega)|exact qq (q57 w) (by simp[alikeV])
  ·rcases good_cases hb with ⟨h, -⟩|⟨h, -⟩|⟨-,rfl,rfl,rfl⟩|⟨h, -⟩|⟨h, -⟩|⟨h, -⟩|⟨h, -⟩<;>first|(exfalso;dsimp only at h;omega)|exact qq (q58 c c' w) (by simp[alikeV])
  ·exact absurd rfl h4
  ·rcases good_cases hb with ⟨h, -⟩|⟨h, -⟩|⟨h, -⟩|⟨h, -⟩|⟨-,rfl,rfl,rfl, -⟩|⟨h, -⟩|⟨h, -⟩<;>first|(exfalso;dsimp only at h;omega)|exact qq (q79 s s' w) (by simp[alikeV])
  ·rcases good_cases hb with ⟨h, -⟩|⟨h, -⟩|⟨h, -⟩|⟨h, -⟩|⟨h, -⟩|⟨-,rfl,rfl,rfl, -, -⟩|⟨h, -⟩<;>first|(exfalso;dsimp only at h;omega)|exact qq (q81 i i' w) (by simp[alikeV])
  ·rcases good_cases hb with ⟨h, -⟩|⟨h, -⟩|⟨h, -⟩|⟨h, -⟩|⟨h, -⟩|⟨h, -⟩|⟨-,rfl,rfl,rfl, -, -⟩<;>first|(exfalso;dsimp only at h;omega)|exact qq (q82 i i' w) (by simp[alikeV])
 ·rw[ifc_eq,ifc_eq]
  refine qq (qne _ _ _ _ w ?_) ?_
  ·have e1:k=1∨k=2∨k=3∨k=4∨k=5∨k=6∨k=7:=by
    rcases good_cases ha with ⟨h, -⟩|⟨h, -⟩|⟨h, -⟩|⟨h, -⟩|⟨h, -⟩|⟨h, -⟩|⟨h, -⟩<;>(dsimp only at h;omega)
   have e2:k'=1∨k'=2∨k'=3∨k'=4∨k'=5∨k'=6∨k'=7:=by
    rcases good_cases hb with ⟨h, -⟩|⟨h, -⟩|⟨h, -⟩|⟨h, -⟩|⟨h, -⟩|⟨h, -⟩|⟨h, -⟩<;>(dsimp only at h;omega)
   dsimp only
   rcases e1 with rfl|rfl|rfl|rfl|rfl|rfl|rfl<;>rcases e2 with rfl|rfl|rfl|rfl|rfl|rfl|rfl<;>first|exact absurd rfl hk|decide
  ·unfold alikeV
   have:(k==k')=false:=by rw[beq_eq_false_iff_ne];exact hk
   simp[this]
theorem tyK_ne {k:Int} (h:k≠4):(tyK k=94)=False:=by
 unfold tyK
 repeat' split
 all_goals first|contradiction|simp
theorem alike_good (f:FuncId) (cmp:Nat->Nat->Bool) (a b:VV) (ha:a.good=true) (hb:b.good=true)
  (hn: ∀w,Calls Tryz.prog 131 #[.iface 94 (.float .f64 a.x), .iface 94 (.float .f64 b.x), .func (.func f) #[] #[]] w fun e w'=>e= .returned (.bool (cmp a.x b.x))/\Below w.heap.size w w') (w:World):
  Calls Tryz.prog 131 #[a.ifc,b.ifc, .func (.func f) #[] #[]] w fun e w'=>e= .returned (.bool (alikeV cmp a b))/\Below w.heap.size w w':=by
 by_cases h4:a.k=4
 ·by_cases k4:b.k=4
  ·have e1:a.ifc= .iface 94 (.float .f64 a.x):=by unfold VV.ifc;rw[h4];rfl
   have e2:b.ifc= .iface 94 (.float .f64 b.x):=by unfold VV.ifc;rw[k4];rfl
   have e3:alikeV cmp a b=cmp a.x b.x:=by unfold alikeV;simp[h4,k4]
   rw[e1,e2,e3]
   exact hn w
  ·have e1:a.ifc= .iface 94 (.float .f64 a.x):=by unfold VV.ifc;rw[h4];rfl
   have e3:alikeV cmp a b=false:=by
    unfold alikeV
    have:(a.k==b.k)=false:=by rw[beq_eq_false_iff_ne,h4];exact fun e=>k4 e.symm
    rw[this];rfl
   rw[e1,ifc_eq b,e3]
   exact alike_none _ _ _ _ (tyK_ne k4) w
 ·have he:=eql_good cmp a b ha hb h4
  rw[ifc_eq a,ifc_eq b] at *
  exact alike_same _ _ _ _ _ _ (tyK_ne h4) he w
