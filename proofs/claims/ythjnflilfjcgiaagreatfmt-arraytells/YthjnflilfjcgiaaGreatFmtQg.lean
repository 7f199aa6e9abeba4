import Derived.Test.YthjnflilfjcgiaaGreatFmtQf
set_option linter.all false
namespace Go.Proofs.YthjnflilfjcgiaaGreatFmt
set_option maxRecDepth 100000
set_option maxHeartbeats 0
section
open Go.RowKit FM
attribute [local go_sem] bits_run
theorem m56 (w : World) : (method 641 133 (.agg #[]) "cameo/value.kind").run Tryz.prog w = .ok (458, .agg #[]) w := by kernel_rfl
theorem m57 (w : World) : (method 641 86 (.agg #[]) "cameo/value.kind").run Tryz.prog w = .ok (452, .agg #[]) w := by kernel_rfl
theorem m58 (b : Bool) (w : World) : (method 641 114 (.bool b) "cameo/value.kind").run Tryz.prog w = .ok (454, .bool b) w := by kernel_rfl
theorem m59 (x : Nat) (w : World) : (method 641 94 (.float .f64 x) "cameo/value.kind").run Tryz.prog w = .ok (453, .float .f64 x) w := by kernel_rfl
theorem m79 (s : ByteArray) (w : World) : (method 641 115 (.string s) "cameo/value.kind").run Tryz.prog w = .ok (455, .string s) w := by kernel_rfl
theorem m81 (i : Int) (w : World) : (method 641 117 (.int .i64 i) "cameo/value.kind").run Tryz.prog w = .ok (456, .int .i64 i) w := by kernel_rfl
theorem m82 (i : Int) (w : World) : (method 641 118 (.int .i64 i) "cameo/value.kind").run Tryz.prog w = .ok (457, .int .i64 i) w := by kernel_rfl
theorem run_store_floatD (P:Program) (w:World) (a:Addr) (m:Mode) (k:FloatKind) (x:Nat):(store a (.float k x) m).run P w=stored P w a (.float k x) m:=run_store P w a _ m rfl
theorem ta56 (u:TypeId) (v:Value) (w:World):(Instr.typeAssert (.iface u v) 99 133 true).run Tryz.prog w= .ok (if u=133 then .tuple #[v, .bool true] else .tuple #[.agg #[], .bool false]) w:=by
 by_cases h:u=133<;>simp[Instr.typeAssert,run_underlying Tryz.underlying133,h,Tryz.zeroValue133]
theorem ta57 (u:TypeId) (v:Value) (w:World):(Instr.typeAssert (.iface u v) 99 86 true).run Tryz.prog w= .ok (if u=86 then .tuple #[v, .bool true] else .tuple #[.agg #[], .bool false]) w:=by
 by_cases h:u=86<;>simp[Instr.typeAssert,run_underlying Tryz.underlying86,h,Tryz.zeroValue86]
theorem ta58 (u:TypeId) (v:Value) (w:World):(Instr.typeAssert (.iface u v) 99 114 true).run Tryz.prog w= .ok (if u=114 then .tuple #[v, .bool true] else .tuple #[.bool false, .bool false]) w:=by
 by_cases h:u=114<;>simp[Instr.typeAssert,run_underlying Tryz.underlying114,h,Tryz.zeroValue114]
theorem ta59 (u:TypeId) (v:Value) (w:World):(Instr.typeAssert (.iface u v) 99 94 true).run Tryz.prog w= .ok (if u=94 then .tuple #[v, .bool true] else .tuple #[.float .f64 0, .bool false]) w:=by
 by_cases h:u=94<;>simp[Instr.typeAssert,run_underlying Tryz.underlying94,h,Tryz.zeroValue94]
theorem ta79 (u:TypeId) (v:Value) (w:World):(Instr.typeAssert (.iface u v) 99 115 true).run Tryz.prog w= .ok (if u=115 then .tuple #[v, .bool true] else .tuple #[.string ⟨#[]⟩, .bool false]) w:=by
 by_cases h:u=115<;>simp[Instr.typeAssert,run_underlying Tryz.underlying115,h,Tryz.zeroValue115]
theorem ta81 (u:TypeId) (v:Value) (w:World):(Instr.typeAssert (.iface u v) 99 117 true).run Tryz.prog w= .ok (if u=117 then .tuple #[v, .bool true] else .tuple #[.int .i64 0, .bool false]) w:=by
 by_cases h:u=117<;>simp[Instr.typeAssert,run_underlying Tryz.underlying117,h,Tryz.zeroValue117]
theorem ta82 (u:TypeId) (v:Value) (w:World):(Instr.typeAssert (.iface u v) 99 118 true).run Tryz.prog w= .ok (if u=118 then .tuple #[v, .bool true] else .tuple #[.int .i64 0, .bool false]) w:=by
 by_cases h:u=118<;>simp[Instr.typeAssert,run_underlying Tryz.underlying118,h,Tryz.zeroValue118]
attribute [local go_sem] m56 m57 m58 m59 m79 m81 m82 run_store_floatD ta56 ta57 ta58 ta59 ta79 ta81 ta82
theorem below2 (w:World) (o1 o2:Obj):Below w.heap.size w ((w.alloc o1).alloc o2):=((Below.refl _ _).alloc (Nat.le_refl _) _).alloc (by simp) _
theorem below3 (w:World) (o1 o2 o3:Obj):Below w.heap.size w (((w.alloc o1).alloc o2).alloc o3):=(below2 w o1 o2).alloc (by simp;omega) _
theorem kind5 (s:ByteArray) (w:World):Calls Tryz.prog 455 #[.string s] w fun e w'=>e= .returned (.int .i64 5)/\w'=w:=by
 go_enter Tryz.func455,Tryz.ntmps455
 go_wp2
 go_ret
 exact⟨rfl,rfl⟩
theorem outside1 (w:World):Calls Tryz.prog 33 #[.iface 133 (.agg #[])] w fun e w'=>e= .returned (VV.agg ⟨1,false,0,ByteArray.empty,0⟩)/\Below w.heap.size w w':=by
 unfold VV.agg
 go_enter Tryz.func33,Tryz.ntmps33
 go_wp2
 simp[bodyPost,results,Tryz.results33,go_sem]
 exact⟨rfl,below3 ..⟩
theorem outside2 (w:World):Calls Tryz.prog 33 #[.iface 86 (.agg #[])] w fun e w'=>e= .returned (VV.agg ⟨2,false,0,ByteArray.empty,0⟩)/\Below w.heap.size w w':=by
 unfold VV.agg
 go_enter Tryz.func33,Tryz.ntmps33
 go_wp2
 simp[bodyPost,results,Tryz.results33,go_sem]
 exact⟨rfl,below3 ..⟩
theorem outside3 (b:Bool) (w:World):Calls Tryz.prog 33 #[.iface 114 (.bool b)] w fun e w'=>e= .returned (VV.agg ⟨3,b,0,ByteArray.empty,0⟩)/\Below w.heap.size w w':=by
 unfold VV.agg
 go_enter Tryz.func33,Tryz.ntmps33
 go_wp2
 simp[bodyPost,results,Tryz.results33,go_sem]
 exact⟨rfl,below2 ..⟩
theorem outside4 (x:Nat) (w:World):Calls Tryz.prog 33 #[.iface 94 (.float .f64 x)] w fun e w'=>e= .returned (VV.agg ⟨4,false,x,ByteArray.empty,0⟩)/\Below w.heap.size w w':=by
 unfold VV.agg
 go_enter Tryz.func33,Tryz.ntmps33
 go_wp2
 simp[bodyPost,results,Tryz.results33,go_sem]
 exact⟨rfl,below2 ..⟩
theorem outside6 (i:Int) (w:World):Calls Tryz.prog 33 #[.iface 117 (.int .i64 i)] w fun e w'=>e= .returned (VV.agg ⟨6,false,0,ByteArray.empty,i⟩)/\Below w.heap.size w w':=by
 unfold VV.agg
 go_enter Tryz.func33,Tryz.ntmps33
 go_wp2
 simp[bodyPost,results,Tryz.results33,go_sem]
 exact⟨rfl,below2 ..⟩
theorem outside7 (i:Int) (w:World):Calls Tryz.prog 33 #[.iface 118 (.int .i64 i)] w fun e w'=>e= .returned (VV.agg ⟨7,false,0,ByteArray.empty,i⟩)/\Below w.heap.size w w':=by
 unfold VV.agg
 go_enter Tryz.func33,Tryz.ntmps33
 go_wp2
 simp[bodyPost,results,Tryz.results33,go_sem]
 exact⟨rfl,below2 ..⟩
theorem thaw {w w1:World} {c0 c1 c2 c3 c4:Value} {t:TypeId} (hb:Below (w.alloc (Obj.cells #[c0,c1,c2,c3,c4] t)).heap.size (w.alloc (Obj.cells #[c0,c1,c2,c3,c4] t)) w1) (j:Nat):
  w1.frozen? ⟨w.heap.size,j,none⟩=false:=by
 rw[hb.frozen (p:=⟨w.heap.size,j,none⟩) (by simp)]
 simp[go_sem]
theorem outside5 (s:ByteArray) (h:s.size<=1048576) (w:World):Calls Tryz.prog 33 #[.iface 115 (.string s)] w fun e w'=>e= .returned (VV.agg ⟨5,false,0,s,0⟩)/\Below w.heap.size w w':=by
 have HC:=hide (fun w=>clone_any s w h)
 clear h
 unfold VV.agg
 go_enter Tryz.func33,Tryz.ntmps33
 go_wp2_with fail
 refine(kind5 s _).mono ?_
 rintro e w1 ⟨rfl,rfl⟩
 go_wp2_with fail
 refine(uh HC _).mono ?_
 rintro e w2 ⟨rfl,hb⟩
 obtain⟨c0,c1,c2,c3,c4,hB,hsz⟩:=five hb
 have hf:=thaw hb 3
 have hr0:=(hb.cell (p:=⟨w.heap.size,0,none⟩) (by simp;omega))
 have hr1:=(hb.cell (p:=⟨w.heap.size,1,none⟩) (by simp;omega))
 have hr2:=(hb.cell (p:=⟨w.heap.size,2,none⟩) (by simp;omega))
 have hr3:=(hb.cell (p:=⟨w.heap.size,3,none⟩) (by simp;omega))
 have hr4:=(hb.cell (p:=⟨w.heap.size,4,none⟩) (by simp;omega))
 have fz:=fun j=>hb.frozen (p:=⟨w.heap.size,j,none⟩) (by simp;omega)
 simp[go_sem] at c0 c1 c2 c3 c4 hf hsz hr0 hr1 hr2 hr3 hr4 fz
 have hB':Below w.heap.size w w2:=((Below.refl _ _).alloc (Nat.le_refl _) _).trans (hB.mono (by simp))
 clear hb hB
 go_wp2
 simp[bodyPost,results,Tryz.results33,go_sem,hr0,hr1,hr2,hr3,hr4]
 exact(((((hB'.setCell (by simp) _).setCell (Nat.le_refl _) _).setCell (Nat.le_refl _) _).setCell (Nat.le_refl _) _).setCell (Nat.le_refl _) _).setCell (Nat.le_refl _) _
theorem outside_any (v:VV) (h:v.good=true) (w:World):Calls Tryz.prog 33 #[v.ifc] w fun e w'=>e= .returned v.agg/\Below w.heap.size w w':=by
 obtain⟨k,b,x,s,i⟩:=v
 rcases good_cases h with ⟨rfl,rfl,rfl,rfl,rfl⟩|⟨rfl,rfl,rfl,rfl,rfl⟩|⟨rfl,rfl,rfl,rfl⟩|⟨rfl,rfl,rfl,rfl⟩|⟨rfl,rfl,rfl,rfl,hs⟩|⟨rfl,rfl,rfl,rfl, -, -⟩|⟨rfl,rfl,rfl,rfl, -, -⟩
 ·exact outside1 w
 ·exact outside2 w
 ·exact outside3 b w
 ·exact outside4 x w
 ·refine outside5 s ?_ w
  unfold fitV at hs
  simp at hs
  exact hs.1
 ·exact outside6 i w
 ·exact outside7 i w
theorem ifcV_good {v:VV} (h:v.good=true):ifcV v=v.ifc:=by
 unfold VV.good goodV at h
 unfold ifcV inI
 rw[if_pos h]
theorem inside_good (v:VV) (h:v.good=true) (w:World) (hT:Lib.Utf8Tabs 4 5 w):Calls Tryz.prog 48 #[v.agg] w fun e w'=>e= .returned (.tuple #[v.ifc, .bool true])/\Below w.heap.size w w':=by
 have:=inside_any v.k v.b v.x v.s v.i w hT
 rw[show goodV v.k v.b v.x v.s v.i=true from h,ifcV_good (v:=⟨v.k,v.b,v.x,v.s,v.i⟩) h] at this
 exact this
