import Derived.Test.YtieahhciibdnaaaGreatDoorQi
import Derived.Test.YtieahhciibdnaaaGreatDoorQd
set_option linter.all false
namespace Go.Proofs.YtieahhciibdnaaaGreatDoor
set_option maxRecDepth 100000
set_option maxHeartbeats 0
section
open Go.RowKit FM
attribute [local go_sem] Gy
theorem m56 (w : World) : (method 408 109 (.agg #[]) "cameo/value.kind").run Tryz.prog w = .ok (240, .agg #[]) w := by kernel_rfl
theorem m57 (w : World) : (method 408 79 (.agg #[]) "cameo/value.kind").run Tryz.prog w = .ok (157, .agg #[]) w := by kernel_rfl
theorem m58 (b : Bool) (w : World) : (method 408 110 (.bool b) "cameo/value.kind").run Tryz.prog w = .ok (241, .bool b) w := by kernel_rfl
theorem m59 (x : Nat) (w : World) : (method 408 107 (.float .f64 x) "cameo/value.kind").run Tryz.prog w = .ok (239, .float .f64 x) w := by kernel_rfl
theorem m79 (s : ByteArray) (w : World) : (method 408 111 (.string s) "cameo/value.kind").run Tryz.prog w = .ok (242, .string s) w := by kernel_rfl
theorem m81 (i : Int) (w : World) : (method 408 112 (.int .i64 i) "cameo/value.kind").run Tryz.prog w = .ok (243, .int .i64 i) w := by kernel_rfl
theorem m82 (i : Int) (w : World) : (method 408 113 (.int .i64 i) "cameo/value.kind").run Tryz.prog w = .ok (244, .int .i64 i) w := by kernel_rfl
theorem Ds (P:Program) (w:World) (a:Addr) (m:Mode) (k:FloatKind) (x:Nat):(store a (.float k x) m).run P w=stored P w a (.float k x) m:=run_store P w a _ m rfl
theorem ta56 (u:TypeId) (v:Value) (w:World):(Instr.typeAssert (.iface u v) 74 109 true).run Tryz.prog w= .ok (if u=109 then .tuple #[v, .bool true] else .tuple #[.agg #[], .bool false]) w:=by
 by_cases h:u=109<;>simp[Instr.typeAssert,run_underlying Tryz.underlying109,h,Tryz.zeroValue109]
theorem ta57 (u:TypeId) (v:Value) (w:World):(Instr.typeAssert (.iface u v) 74 79 true).run Tryz.prog w= .ok (if u=79 then .tuple #[v, .bool true] else .tuple #[.agg #[], .bool false]) w:=by
 by_cases h:u=79<;>simp[Instr.typeAssert,run_underlying Tryz.underlying79,h,Tryz.zeroValue79]
theorem ta58 (u:TypeId) (v:Value) (w:World):(Instr.typeAssert (.iface u v) 74 110 true).run Tryz.prog w= .ok (if u=110 then .tuple #[v, .bool true] else .tuple #[.bool false, .bool false]) w:=by
 by_cases h:u=110<;>simp[Instr.typeAssert,run_underlying Tryz.underlying110,h,Tryz.zeroValue110]
theorem ta59 (u:TypeId) (v:Value) (w:World):(Instr.typeAssert (.iface u v) 74 107 true).run Tryz.prog w= .ok (if u=107 then .tuple #[v, .bool true] else .tuple #[.float .f64 0, .bool false]) w:=by
 by_cases h:u=107<;>simp[Instr.typeAssert,run_underlying Tryz.underlying107,h,Tryz.zeroValue107]
theorem ta79 (u:TypeId) (v:Value) (w:World):(Instr.typeAssert (.iface u v) 74 111 true).run Tryz.prog w= .ok (if u=111 then .tuple #[v, .bool true] else .tuple #[.string ⟨#[]⟩, .bool false]) w:=by
 by_cases h:u=111<;>simp[Instr.typeAssert,run_underlying Tryz.underlying111,h,Tryz.zeroValue111]
theorem ta81 (u:TypeId) (v:Value) (w:World):(Instr.typeAssert (.iface u v) 74 112 true).run Tryz.prog w= .ok (if u=112 then .tuple #[v, .bool true] else .tuple #[.int .i64 0, .bool false]) w:=by
 by_cases h:u=112<;>simp[Instr.typeAssert,run_underlying Tryz.underlying112,h,Tryz.zeroValue112]
theorem ta82 (u:TypeId) (v:Value) (w:World):(Instr.typeAssert (.iface u v) 74 113 true).run Tryz.prog w= .ok (if u=113 then .tuple #[v, .bool true] else .tuple #[.int .i64 0, .bool false]) w:=by
 by_cases h:u=113<;>simp[Instr.typeAssert,run_underlying Tryz.underlying113,h,Tryz.zeroValue113]
attribute [local go_sem] m56 m57 m58 m59 m79 m81 m82 Ds ta56 ta57 ta58 ta59 ta79 ta81 ta82
theorem Gn (w:World) (o1 o2:Obj):Below w.heap.size w ((w.alloc o1).alloc o2):=((Below.refl _ _).alloc (Nat.le_refl _) _).alloc (by simp) _
theorem below3 (w:World) (o1 o2 o3:Obj):Below w.heap.size w (((w.alloc o1).alloc o2).alloc o3):=(Gn w o1 o2).alloc (by simp;omega) _
theorem kind5 (s:ByteArray) (w:World):Calls Tryz.prog 242 #[.string s] w fun e w'=>e= .returned (.int .i64 5)/\w'=w:=by
 go_enter Tryz.func242,Tryz.ntmps242
 go_wp2
 go_ret
 exact⟨rfl,rfl⟩
theorem Zbk (w:World):Calls Tryz.prog 29 #[.iface 109 (.agg #[])] w fun e w'=>e= .returned (VV.agg ⟨1,false,0,ByteArray.empty,0⟩)/\Below w.heap.size w w':=by
 unfold VV.agg
 go_enter Tryz.func29,Tryz.ntmps29
 go_wp2
 simp[bodyPost,results,Tryz.results29,go_sem]
 exact⟨rfl,below3 ..⟩
theorem Zbj (w:World):Calls Tryz.prog 29 #[.iface 79 (.agg #[])] w fun e w'=>e= .returned (VV.agg ⟨2,false,0,ByteArray.empty,0⟩)/\Below w.heap.size w w':=by
 unfold VV.agg
 go_enter Tryz.func29,Tryz.ntmps29
 go_wp2
 simp[bodyPost,results,Tryz.results29,go_sem]
 exact⟨rfl,below3 ..⟩
theorem outside3 (b:Bool) (w:World):Calls Tryz.prog 29 #[.iface 110 (.bool b)] w fun e w'=>e= .returned (VV.agg ⟨3,b,0,ByteArray.empty,0⟩)/\Below w.heap.size w w':=by
 unfold VV.agg
 go_enter Tryz.func29,Tryz.ntmps29
 go_wp2
 simp[bodyPost,results,Tryz.results29,go_sem]
 exact⟨rfl,Gn ..⟩
theorem Zbi (x:Nat) (w:World):Calls Tryz.prog 29 #[.iface 107 (.float .f64 x)] w fun e w'=>e= .returned (VV.agg ⟨4,false,x,ByteArray.empty,0⟩)/\Below w.heap.size w w':=by
 unfold VV.agg
 go_enter Tryz.func29,Tryz.ntmps29
 go_wp2
 simp[bodyPost,results,Tryz.results29,go_sem]
 exact⟨rfl,Gn ..⟩
theorem outside6 (i:Int) (w:World):Calls Tryz.prog 29 #[.iface 112 (.int .i64 i)] w fun e w'=>e= .returned (VV.agg ⟨6,false,0,ByteArray.empty,i⟩)/\Below w.heap.size w w':=by
 unfold VV.agg
 go_enter Tryz.func29,Tryz.ntmps29
 go_wp2
 simp[bodyPost,results,Tryz.results29,go_sem]
 exact⟨rfl,Gn ..⟩
theorem outside7 (i:Int) (w:World):Calls Tryz.prog 29 #[.iface 113 (.int .i64 i)] w fun e w'=>e= .returned (VV.agg ⟨7,false,0,ByteArray.empty,i⟩)/\Below w.heap.size w w':=by
 unfold VV.agg
 go_enter Tryz.func29,Tryz.ntmps29
 go_wp2
 simp[bodyPost,results,Tryz.results29,go_sem]
 exact⟨rfl,Gn ..⟩
theorem thaw {w w1:World} {c0 c1 c2 c3 c4:Value} {t:TypeId} (hb:Below (w.alloc (Obj.cells #[c0,c1,c2,c3,c4] t)).heap.size (w.alloc (Obj.cells #[c0,c1,c2,c3,c4] t)) w1) (j:Nat):
  w1.frozen? ⟨w.heap.size,j,none⟩=false:=by
 rw[hb.frozen (p:=⟨w.heap.size,j,none⟩) (by simp)]
 simp[go_sem]
theorem outside5 (s:ByteArray) (h:s.size<=1048576) (w:World):Calls Tryz.prog 29 #[.iface 111 (.string s)] w fun e w'=>e= .returned (VV.agg ⟨5,false,0,s,0⟩)/\Below w.heap.size w w':=by
 have HC:=Ab (fun w=>Gq s w h)
 clear h
 unfold VV.agg
 go_enter Tryz.func29,Tryz.ntmps29
 go_wp2_with fail
 refine(kind5 s _).mono ?_
 rintro e w1 ⟨rfl,rfl⟩
 go_wp2_with fail
 refine(Aa HC _).mono ?_
 rintro e w2 ⟨rfl,hb⟩
 obtain⟨c0,c1,c2,c3,c4,hB,hsz⟩:=Zd5 hb
 have hf:=thaw hb 3
 have hr0:=(hb.cell (p:=⟨w.heap.size,0,none⟩) (by simp;omega))
 have hr1:=(hb.cell (p:=⟨w.heap.size,1,none⟩) (by simp;omega))
 have hr2:=(hb.cell (p:=⟨w.heap.size,2,none⟩) (by simp;omega))
 have hr3:=(hb.cell (p:=⟨w.heap.size,3,none⟩) (by simp;omega))
 have hr4:=(hb.cell (p:=⟨w.heap.size,4,none⟩) (by simp;omega))
 have fz:=fun j=>hb.frozen (p:=⟨w.heap.size,j,none⟩) (by simp;omega)
 simp[go_sem] at c0 c1 c2 c3 c4 hf hsz hr0 hr1 hr2 hr3 hr4 fz
 have hB':Below w.heap.size w w2:=((Below.refl _ _).alloc (Nat.le_refl _) _).trans (hB.mono (by simp))
 clear hb hB
 go_wp2
 simp[bodyPost,results,Tryz.results29,go_sem,hr0,hr1,hr2,hr3,hr4]
 exact(((((hB'.setCell (by simp) _).setCell (Nat.le_refl _) _).setCell (Nat.le_refl _) _).setCell (Nat.le_refl _) _).setCell (Nat.le_refl _) _).setCell (Nat.le_refl _) _
theorem Zbh (v:VV) (h:v.good=true) (w:World):Calls Tryz.prog 29 #[v.ifc] w fun e w'=>e= .returned v.agg/\Below w.heap.size w w':=by
 obtain⟨k,b,x,s,i⟩:=v
 rcases Eg h with ⟨rfl,rfl,rfl,rfl,rfl⟩|⟨rfl,rfl,rfl,rfl,rfl⟩|⟨rfl,rfl,rfl,rfl⟩|⟨rfl,rfl,rfl,rfl⟩|⟨rfl,rfl,rfl,rfl,hs⟩|⟨rfl,rfl,rfl,rfl, -, -⟩|⟨rfl,rfl,rfl,rfl, -, -⟩
 ·exact Zbk w
 ·exact Zbj w
 ·exact outside3 b w
 ·exact Zbi x w
 ·refine outside5 s ?_ w
  unfold Up at hs
  simp at hs
  exact hs.1
 ·exact outside6 i w
 ·exact outside7 i w
theorem Ri {v:VV} (h:v.good=true):ZbC v=v.ifc:=by
 unfold VV.good Ke at h
 unfold ZbC inI
 rw[if_pos h]
theorem Zbz (v:VV) (h:v.good=true) (w:World) (hT:Lib.Utf8Tabs 1 2 w):Calls Tryz.prog 28 #[v.agg] w fun e w'=>e= .returned (.tuple #[v.ifc, .bool true])/\Below w.heap.size w w':=by
 have:=Le v.k v.b v.x v.s v.i w hT
 rw[show Ke v.k v.b v.x v.s v.i=true from h,Ri (v:=⟨v.k,v.b,v.x,v.s,v.i⟩) h] at this
 exact this
end
section
open Go.RowKit FM
attribute [local go_sem] Gy Ds
theorem Zb3 (x:Nat) (hx:x<2^64):(FloatKind.f64.format.order x 0==some .eq)=(decide (x=0)||decide (x=9223372036854775808)):=by
 rw[eq_order x 0 hx (by decide)]
 unfold ZcA Zcj Lj
 have e1:isN 0=false:=by decide+kernel
 have e2:sz 0=0:=by decide+kernel
 rw[e1,e2]
 by_cases h:sz x=0
 ·rw[sz0_nan h]
  unfold sz at h
  have:x=0∨x=9223372036854775808:=by omega
  rcases this with rfl|rfl<;>simp[sz]
 ·have h1: ¬x=0:=by rintro rfl;exact h e2
  have h2: ¬x=9223372036854775808:=by rintro rfl;exact h (by decide+kernel)
  simp[h,h1,h2]
theorem quo_pos (w:World):(binOp .quo 24 (.float .f64 4607182418800017408) (.float .f64 0)).run Tryz.prog w= .ok (.float .f64 9218868437227405312) w:=by kernel_rfl
theorem quo_neg (w:World):(binOp .quo 24 (.float .f64 4607182418800017408) (.float .f64 9223372036854775808)).run Tryz.prog w= .ok (.float .f64 18442240474082181120) w:=by kernel_rfl
structure Five (w:World) (B:Nat) (c0 c1 c2 c3 c4:Value):Prop where
 h0:w.cell? ⟨B,0,none⟩=some c0
 h1:w.cell? ⟨B,1,none⟩=some c1
 h2:w.cell? ⟨B,2,none⟩=some c2
 h3:w.cell? ⟨B,3,none⟩=some c3
 h4:w.cell? ⟨B,4,none⟩=some c4
 fz: ∀j,w.frozen? ⟨B,j,none⟩=false
 lt:B<w.heap.size
theorem Qn (w:World) (B:Nat) (c0 c1 c2 c3 c4:Value) (t:TypeId) (hB:B=w.heap.size):Five (w.alloc (Obj.cells #[c0,c1,c2,c3,c4] t)) B c0 c1 c2 c3 c4:=by
 subst hB
 refine⟨?_, ?_, ?_, ?_, ?_,fun j=> ?_, ?_⟩<;>simp[go_sem]
theorem Mk {w w':World} {B:Nat} {c0 c1 c2 c3 c4:Value} (h:Five w B c0 c1 c2 c3 c4) (hb:Below w.heap.size w w'):Five w' B c0 c1 c2 c3 c4:=
 ⟨(hb.cell h.lt).trans h.h0,(hb.cell h.lt).trans h.h1,(hb.cell h.lt).trans h.h2,(hb.cell h.lt).trans h.h3,(hb.cell h.lt).trans h.h4,fun j=>(hb.frozen h.lt).trans (h.fz j),Nat.lt_of_lt_of_le h.lt hb.size⟩
theorem set5 {w W:World} {B:Nat} {v0 v1 v2 v3 v4:Value} (h:Below w.heap.size w W) (hB:w.heap.size<=B):
  Below w.heap.size w (((((W.setCell ⟨B,0,none⟩ v0).setCell ⟨B,1,none⟩ v1).setCell ⟨B,2,none⟩ v2).setCell ⟨B,3,none⟩ v3).setCell ⟨B,4,none⟩ v4):=
 ((((h.setCell hB _).setCell hB _).setCell hB _).setCell hB _).setCell hB _

def Nl (b:Bool):Int:=if b then 0 else 5
theorem Eo (v:VV) (w:World) (hT:Lib.Utf8Tabs 1 2 w):Calls Tryz.prog 6 #[v.agg] w fun e w'=>e= .returned (.int .i64 (Nl v.good))/\Below w.heap.size w w':=by
 have HI:=Ab (Le v.k v.b v.x v.s v.i)
 have HT:=Ab hT
 clear hT
 unfold VV.good
 generalize Ke v.k v.b v.x v.s v.i=g at *
 generalize ZbC ⟨v.k,v.b,v.x,v.s,v.i⟩=f at *
 obtain⟨k,b,x,s,i⟩:=v
 unfold VV.agg at *
 dsimp only at *
 cases g
 all_goals
  go_enter Tryz.func6,Tryz.ntmps6
  go_wp2_with fail
  refine(Aa HI _ (Al (Aa HT) ((Below.refl _ _).alloc (Nat.le_refl _) _))).mono ?_
  rintro e w1 ⟨rfl,hb⟩
  go_wp2
  go_ret
  exact⟨rfl,((Below.refl _ _).alloc (Nat.le_refl _) _).trans (hb.mono (by simp))⟩
