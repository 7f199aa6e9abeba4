import Derived.Test.YtlpdllcedgnaaaaGreatDoorQe
set_option linter.all false
namespace Go.Proofs.YtlpdllcedgnaaaaGreatDoor
set_option maxRecDepth 100000
set_option maxHeartbeats 0
section
open Go.RowKit FM
attribute [local go_sem] Gk
theorem m56 (w : World) : (method 393 174 (.agg #[]) "cameo/value.kind").run Tryz.prog w = .ok (229, .agg #[]) w := by kernel_rfl
theorem m57 (w : World) : (method 393 90 (.agg #[]) "cameo/value.kind").run Tryz.prog w = .ok (219, .agg #[]) w := by kernel_rfl
theorem m58 (b : Bool) (w : World) : (method 393 126 (.bool b) "cameo/value.kind").run Tryz.prog w = .ok (223, .bool b) w := by kernel_rfl
theorem m59 (x : Nat) (w : World) : (method 393 112 (.float .f64 x) "cameo/value.kind").run Tryz.prog w = .ok (220, .float .f64 x) w := by kernel_rfl
theorem m79 (s : ByteArray) (w : World) : (method 393 127 (.string s) "cameo/value.kind").run Tryz.prog w = .ok (224, .string s) w := by kernel_rfl
theorem m81 (i : Int) (w : World) : (method 393 129 (.int .i64 i) "cameo/value.kind").run Tryz.prog w = .ok (225, .int .i64 i) w := by kernel_rfl
theorem m82 (i : Int) (w : World) : (method 393 130 (.int .i64 i) "cameo/value.kind").run Tryz.prog w = .ok (226, .int .i64 i) w := by kernel_rfl
theorem Dl (P:Program) (w:World) (a:Addr) (m:Mode) (k:FloatKind) (x:Nat):(store a (.float k x) m).run P w=stored P w a (.float k x) m:=run_store P w a _ m rfl
theorem ta56 (u:TypeId) (v:Value) (w:World):(Instr.typeAssert (.iface u v) 125 174 true).run Tryz.prog w= .ok (if u=174 then .tuple #[v, .bool true] else .tuple #[.agg #[], .bool false]) w:=by
 by_cases h:u=174<;>simp[Instr.typeAssert,run_underlying Tryz.underlying174,h,Tryz.zeroValue174]
theorem ta57 (u:TypeId) (v:Value) (w:World):(Instr.typeAssert (.iface u v) 125 90 true).run Tryz.prog w= .ok (if u=90 then .tuple #[v, .bool true] else .tuple #[.agg #[], .bool false]) w:=by
 by_cases h:u=90<;>simp[Instr.typeAssert,run_underlying Tryz.underlying90,h,Tryz.zeroValue90]
theorem ta58 (u:TypeId) (v:Value) (w:World):(Instr.typeAssert (.iface u v) 125 126 true).run Tryz.prog w= .ok (if u=126 then .tuple #[v, .bool true] else .tuple #[.bool false, .bool false]) w:=by
 by_cases h:u=126<;>simp[Instr.typeAssert,run_underlying Tryz.underlying126,h,Tryz.zeroValue126]
theorem ta59 (u:TypeId) (v:Value) (w:World):(Instr.typeAssert (.iface u v) 125 112 true).run Tryz.prog w= .ok (if u=112 then .tuple #[v, .bool true] else .tuple #[.float .f64 0, .bool false]) w:=by
 by_cases h:u=112<;>simp[Instr.typeAssert,run_underlying Tryz.underlying112,h,Tryz.zeroValue112]
theorem ta79 (u:TypeId) (v:Value) (w:World):(Instr.typeAssert (.iface u v) 125 127 true).run Tryz.prog w= .ok (if u=127 then .tuple #[v, .bool true] else .tuple #[.string ⟨#[]⟩, .bool false]) w:=by
 by_cases h:u=127<;>simp[Instr.typeAssert,run_underlying Tryz.underlying127,h,Tryz.zeroValue127]
theorem ta81 (u:TypeId) (v:Value) (w:World):(Instr.typeAssert (.iface u v) 125 129 true).run Tryz.prog w= .ok (if u=129 then .tuple #[v, .bool true] else .tuple #[.int .i64 0, .bool false]) w:=by
 by_cases h:u=129<;>simp[Instr.typeAssert,run_underlying Tryz.underlying129,h,Tryz.zeroValue129]
theorem ta82 (u:TypeId) (v:Value) (w:World):(Instr.typeAssert (.iface u v) 125 130 true).run Tryz.prog w= .ok (if u=130 then .tuple #[v, .bool true] else .tuple #[.int .i64 0, .bool false]) w:=by
 by_cases h:u=130<;>simp[Instr.typeAssert,run_underlying Tryz.underlying130,h,Tryz.zeroValue130]
attribute [local go_sem] m56 m57 m58 m59 m79 m81 m82 Dl ta56 ta57 ta58 ta59 ta79 ta81 ta82
theorem Jc (w:World) (o1 o2:Obj):Below w.heap.size w ((w.alloc o1).alloc o2):=((Below.refl _ _).alloc (Nat.le_refl _) _).alloc (by simp) _
theorem below3 (w:World) (o1 o2 o3:Obj):Below w.heap.size w (((w.alloc o1).alloc o2).alloc o3):=(Jc w o1 o2).alloc (by simp;omega) _
theorem kind5 (s:ByteArray) (w:World):Calls Tryz.prog 224 #[.string s] w fun e w'=>e= .returned (.int .i64 5)/\w'=w:=by
 go_enter Tryz.func224,Tryz.ntmps224
 go_wp2
 go_ret
 exact⟨rfl,rfl⟩
theorem Zas (w:World):Calls Tryz.prog 36 #[.iface 174 (.agg #[])] w fun e w'=>e= .returned (VV.agg ⟨1,false,0,ByteArray.empty,0⟩)/\Below w.heap.size w w':=by
 unfold VV.agg
 go_enter Tryz.func36,Tryz.ntmps36
 go_wp2
 simp[bodyPost,results,Tryz.results36,go_sem]
 exact⟨rfl,below3 ..⟩
theorem Zar (w:World):Calls Tryz.prog 36 #[.iface 90 (.agg #[])] w fun e w'=>e= .returned (VV.agg ⟨2,false,0,ByteArray.empty,0⟩)/\Below w.heap.size w w':=by
 unfold VV.agg
 go_enter Tryz.func36,Tryz.ntmps36
 go_wp2
 simp[bodyPost,results,Tryz.results36,go_sem]
 exact⟨rfl,below3 ..⟩
theorem outside3 (b:Bool) (w:World):Calls Tryz.prog 36 #[.iface 126 (.bool b)] w fun e w'=>e= .returned (VV.agg ⟨3,b,0,ByteArray.empty,0⟩)/\Below w.heap.size w w':=by
 unfold VV.agg
 go_enter Tryz.func36,Tryz.ntmps36
 go_wp2
 simp[bodyPost,results,Tryz.results36,go_sem]
 exact⟨rfl,Jc ..⟩
theorem Zaq (x:Nat) (w:World):Calls Tryz.prog 36 #[.iface 112 (.float .f64 x)] w fun e w'=>e= .returned (VV.agg ⟨4,false,x,ByteArray.empty,0⟩)/\Below w.heap.size w w':=by
 unfold VV.agg
 go_enter Tryz.func36,Tryz.ntmps36
 go_wp2
 simp[bodyPost,results,Tryz.results36,go_sem]
 exact⟨rfl,Jc ..⟩
theorem outside6 (i:Int) (w:World):Calls Tryz.prog 36 #[.iface 129 (.int .i64 i)] w fun e w'=>e= .returned (VV.agg ⟨6,false,0,ByteArray.empty,i⟩)/\Below w.heap.size w w':=by
 unfold VV.agg
 go_enter Tryz.func36,Tryz.ntmps36
 go_wp2
 simp[bodyPost,results,Tryz.results36,go_sem]
 exact⟨rfl,Jc ..⟩
theorem outside7 (i:Int) (w:World):Calls Tryz.prog 36 #[.iface 130 (.int .i64 i)] w fun e w'=>e= .returned (VV.agg ⟨7,false,0,ByteArray.empty,i⟩)/\Below w.heap.size w w':=by
 unfold VV.agg
 go_enter Tryz.func36,Tryz.ntmps36
 go_wp2
 simp[bodyPost,results,Tryz.results36,go_sem]
 exact⟨rfl,Jc ..⟩
theorem thaw {w w1:World} {c0 c1 c2 c3 c4:Value} {t:TypeId} (hb:Below (w.alloc (Obj.cells #[c0,c1,c2,c3,c4] t)).heap.size (w.alloc (Obj.cells #[c0,c1,c2,c3,c4] t)) w1) (j:Nat):
  w1.frozen? ⟨w.heap.size,j,none⟩=false:=by
 rw[hb.frozen (p:=⟨w.heap.size,j,none⟩) (by simp)]
 simp[go_sem]
theorem outside5 (s:ByteArray) (h:s.size<=1048576) (w:World):Calls Tryz.prog 36 #[.iface 127 (.string s)] w fun e w'=>e= .returned (VV.agg ⟨5,false,0,s,0⟩)/\Below w.heap.size w w':=by
 have HC:=Ab (fun w=>Pz s w h)
 clear h
 unfold VV.agg
 go_enter Tryz.func36,Tryz.ntmps36
 go_wp2_with fail
 refine(kind5 s _).mono ?_
 rintro e w1 ⟨rfl,rfl⟩
 go_wp2_with fail
 refine(Aa HC _).mono ?_
 rintro e w2 ⟨rfl,hb⟩
 obtain⟨c0,c1,c2,c3,c4,hB,hsz⟩:=ZbJ hb
 have hf:=thaw hb 3
 have hr0:=(hb.cell (p:=⟨w.heap.size,0,none⟩) (by simp;omega))
 have hr1:=(hb.cell (p:=⟨w.heap.size,1,none⟩) (by simp;omega))
 have hr2:=(hb.cell (p:=⟨w.heap.size,2,none⟩) (by simp;omega))
 have hr3:=(hb.cell (p:=⟨w.heap.size,3,none⟩) (by simp;omega))
 have hr4:=(hb.cell (p:=⟨w.heap.size,4,none⟩) (by simp;omega))
 have fz:=fun j=>hb.frozen (p:=⟨w.heap.size,j,none⟩) (by simp;omega)
 simp[go_sem] at c0 c1 c2 c3 c4 hf hsz hr0 hr1 hr2 hr3 hr4 fz
 have hB':Below w.heap.size w w2:=((Below.refl _ _).alloc (Nat.le_refl _) _).trans (hB.mono (by simp))
 clear hb hB
 go_wp2
 simp[bodyPost,results,Tryz.results36,go_sem,hr0,hr1,hr2,hr3,hr4]
 exact(((((hB'.setCell (by simp) _).setCell (Nat.le_refl _) _).setCell (Nat.le_refl _) _).setCell (Nat.le_refl _) _).setCell (Nat.le_refl _) _).setCell (Nat.le_refl _) _
theorem Zap (v:VV) (h:v.good=true) (w:World):Calls Tryz.prog 36 #[v.ifc] w fun e w'=>e= .returned v.agg/\Below w.heap.size w w':=by
 obtain⟨k,b,x,s,i⟩:=v
 rcases Dz h with ⟨rfl,rfl,rfl,rfl,rfl⟩|⟨rfl,rfl,rfl,rfl,rfl⟩|⟨rfl,rfl,rfl,rfl⟩|⟨rfl,rfl,rfl,rfl⟩|⟨rfl,rfl,rfl,rfl,hs⟩|⟨rfl,rfl,rfl,rfl, -, -⟩|⟨rfl,rfl,rfl,rfl, -, -⟩
 ·exact Zas w
 ·exact Zar w
 ·exact outside3 b w
 ·exact Zaq x w
 ·refine outside5 s ?_ w
  unfold Gh at hs
  simp at hs
  exact hs.1
 ·exact outside6 i w
 ·exact outside7 i w
theorem Pp {v:VV} (h:v.good=true):ZaL v=v.ifc:=by
 unfold VV.good Gi at h
 unfold ZaL inI
 rw[if_pos h]
theorem ZaJ (v:VV) (h:v.good=true) (w:World) (hT:Lib.Utf8Tabs 0 1 w):Calls Tryz.prog 71 #[v.agg] w fun e w'=>e= .returned (.tuple #[v.ifc, .bool true])/\Below w.heap.size w w':=by
 have:=Jy v.k v.b v.x v.s v.i w hT
 rw[show Gi v.k v.b v.x v.s v.i=true from h,Pp (v:=⟨v.k,v.b,v.x,v.s,v.i⟩) h] at this
 exact this
