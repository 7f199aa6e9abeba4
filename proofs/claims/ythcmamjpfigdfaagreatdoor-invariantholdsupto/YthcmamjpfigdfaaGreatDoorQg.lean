import Derived.Test.YthcmamjpfigdfaaGreatDoorQf
set_option linter.all false
namespace Go.Proofs.YthcmamjpfigdfaaGreatDoor
set_option maxRecDepth 100000
set_option maxHeartbeats 0
section
open Go.RowKit FM
attribute [local go_sem] Gt
theorem m56 (w : World) : (method 429 227 (.agg #[]) "cameo/value.kind").run Tryz.prog w = .ok (265, .agg #[]) w := by kernel_rfl
theorem m57 (w : World) : (method 429 228 (.agg #[]) "cameo/value.kind").run Tryz.prog w = .ok (266, .agg #[]) w := by kernel_rfl
theorem m58 (b : Bool) (w : World) : (method 429 229 (.bool b) "cameo/value.kind").run Tryz.prog w = .ok (267, .bool b) w := by kernel_rfl
theorem m59 (x : Nat) (w : World) : (method 429 230 (.float .f64 x) "cameo/value.kind").run Tryz.prog w = .ok (268, .float .f64 x) w := by kernel_rfl
theorem m79 (s : ByteArray) (w : World) : (method 429 232 (.string s) "cameo/value.kind").run Tryz.prog w = .ok (269, .string s) w := by kernel_rfl
theorem m81 (i : Int) (w : World) : (method 429 233 (.int .i64 i) "cameo/value.kind").run Tryz.prog w = .ok (270, .int .i64 i) w := by kernel_rfl
theorem m82 (i : Int) (w : World) : (method 429 234 (.int .i64 i) "cameo/value.kind").run Tryz.prog w = .ok (271, .int .i64 i) w := by kernel_rfl
theorem Dv (P:Program) (w:World) (a:Addr) (m:Mode) (k:FloatKind) (x:Nat):(store a (.float k x) m).run P w=stored P w a (.float k x) m:=run_store P w a _ m rfl
theorem ta56 (u:TypeId) (v:Value) (w:World):(Instr.typeAssert (.iface u v) 195 227 true).run Tryz.prog w= .ok (if u=227 then .tuple #[v, .bool true] else .tuple #[.agg #[], .bool false]) w:=by
 by_cases h:u=227<;>simp[Instr.typeAssert,run_underlying Tryz.underlying227,h,Tryz.zeroValue227]
theorem ta57 (u:TypeId) (v:Value) (w:World):(Instr.typeAssert (.iface u v) 195 228 true).run Tryz.prog w= .ok (if u=228 then .tuple #[v, .bool true] else .tuple #[.agg #[], .bool false]) w:=by
 by_cases h:u=228<;>simp[Instr.typeAssert,run_underlying Tryz.underlying228,h,Tryz.zeroValue228]
theorem ta58 (u:TypeId) (v:Value) (w:World):(Instr.typeAssert (.iface u v) 195 229 true).run Tryz.prog w= .ok (if u=229 then .tuple #[v, .bool true] else .tuple #[.bool false, .bool false]) w:=by
 by_cases h:u=229<;>simp[Instr.typeAssert,run_underlying Tryz.underlying229,h,Tryz.zeroValue229]
theorem ta59 (u:TypeId) (v:Value) (w:World):(Instr.typeAssert (.iface u v) 195 230 true).run Tryz.prog w= .ok (if u=230 then .tuple #[v, .bool true] else .tuple #[.float .f64 0, .bool false]) w:=by
 by_cases h:u=230<;>simp[Instr.typeAssert,run_underlying Tryz.underlying230,h,Tryz.zeroValue230]
theorem ta79 (u:TypeId) (v:Value) (w:World):(Instr.typeAssert (.iface u v) 195 232 true).run Tryz.prog w= .ok (if u=232 then .tuple #[v, .bool true] else .tuple #[.string ⟨#[]⟩, .bool false]) w:=by
 by_cases h:u=232<;>simp[Instr.typeAssert,run_underlying Tryz.underlying232,h,Tryz.zeroValue232]
theorem ta81 (u:TypeId) (v:Value) (w:World):(Instr.typeAssert (.iface u v) 195 233 true).run Tryz.prog w= .ok (if u=233 then .tuple #[v, .bool true] else .tuple #[.int .i64 0, .bool false]) w:=by
 by_cases h:u=233<;>simp[Instr.typeAssert,run_underlying Tryz.underlying233,h,Tryz.zeroValue233]
theorem ta82 (u:TypeId) (v:Value) (w:World):(Instr.typeAssert (.iface u v) 195 234 true).run Tryz.prog w= .ok (if u=234 then .tuple #[v, .bool true] else .tuple #[.int .i64 0, .bool false]) w:=by
 by_cases h:u=234<;>simp[Instr.typeAssert,run_underlying Tryz.underlying234,h,Tryz.zeroValue234]
attribute [local go_sem] m56 m57 m58 m59 m79 m81 m82 Dv ta56 ta57 ta58 ta59 ta79 ta81 ta82
theorem Ku (w:World) (o1 o2:Obj):Below w.heap.size w ((w.alloc o1).alloc o2):=((Below.refl _ _).alloc (Nat.le_refl _) _).alloc (by simp) _
theorem below3 (w:World) (o1 o2 o3:Obj):Below w.heap.size w (((w.alloc o1).alloc o2).alloc o3):=(Ku w o1 o2).alloc (by simp;omega) _
theorem outside1 (w:World):Calls Tryz.prog 171 #[.iface 227 (.agg #[])] w fun e w'=>e= .returned (VV.agg ⟨1,false,0,ByteArray.empty,0⟩)/\Below w.heap.size w w':=by
 unfold VV.agg
 go_enter Tryz.func171,Tryz.ntmps171
 go_wp2
 simp[bodyPost,results,Tryz.results171,go_sem]
 exact⟨rfl,below3 ..⟩
theorem outside4 (x:Nat) (w:World):Calls Tryz.prog 171 #[.iface 230 (.float .f64 x)] w fun e w'=>e= .returned (VV.agg ⟨4,false,x,ByteArray.empty,0⟩)/\Below w.heap.size w w':=by
 unfold VV.agg
 go_enter Tryz.func171,Tryz.ntmps171
 go_wp2
 simp[bodyPost,results,Tryz.results171,go_sem]
 exact⟨rfl,Ku ..⟩
theorem ZbH {v:VV} (h:v.good=true):Zdq v=v.ifc:=by
 unfold VV.good Ml at h
 unfold Zdq inI
 rw[if_pos h]
