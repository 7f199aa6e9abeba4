import Derived.Test.YtfnohipnenkhoaaGreatDoorQh
import Derived.Test.YtfnohipnenkhoaaGreatDoorQd
set_option linter.all false
namespace Go.Proofs.YtfnohipnenkhoaaGreatDoor
set_option maxRecDepth 100000
set_option maxHeartbeats 0
section
open Go Go.Proofs Go.RowKit
structure DD where
 v:VV
 g:VV
 s:VV
 w:Int
 e:Int
 c:Int
def DD.agg (d:DD):Value:= .agg #[.int .i64 d.v.k, .bool d.v.b, .float .f64 d.v.x, .string d.v.s, .int .i64 d.v.i, .int .i64 d.g.k, .bool d.g.b, .float .f64 d.g.x, .string d.g.s, .int .i64 d.g.i, .int .i64 d.s.k, .bool d.s.b, .float .f64 d.s.x, .string d.s.s, .int .i64 d.s.i, .int .i64 d.w, .int .i64 d.e, .int .i64 d.c]
theorem Jc (n:DD):n.agg= .agg #[.int .i64 n.v.k, .bool n.v.b, .float .f64 n.v.x, .string n.v.s, .int .i64 n.v.i, .int .i64 n.g.k, .bool n.g.b, .float .f64 n.g.x, .string n.g.s, .int .i64 n.g.i, .int .i64 n.s.k, .bool n.s.b, .float .f64 n.s.x, .string n.s.s, .int .i64 n.s.i, .int .i64 n.w, .int .i64 n.e, .int .i64 n.c]:=rfl
def DD.obj (d:DD):Obj:=Obj.cells #[.int .i64 d.v.k, .bool d.v.b, .float .f64 d.v.x, .string d.v.s, .int .i64 d.v.i, .int .i64 d.g.k, .bool d.g.b, .float .f64 d.g.x, .string d.g.s, .int .i64 d.g.i, .int .i64 d.s.k, .bool d.s.b, .float .f64 d.s.x, .string d.s.s, .int .i64 d.s.i, .int .i64 d.w, .int .i64 d.e, .int .i64 d.c] 39
def VV.obj (d:VV):Obj:=Obj.cells #[.int .i64 d.k, .bool d.b, .float .f64 d.x, .string d.s, .int .i64 d.i] 36
def Av:VV:=⟨0,false,0,⟨#[]⟩,0⟩
def Ak:DD:=⟨Av,Av,Av,0,0,0⟩
def Lies (W:World) (B:Nat) (d:DD):Prop:=(∀j,W.frozen? ⟨B,j,none⟩=false)/\W.cell? ⟨B,0,none⟩=some (.int .i64 d.v.k)/\W.cell? ⟨B,1,none⟩=some (.bool d.v.b)/\W.cell? ⟨B,2,none⟩=some (.float .f64 d.v.x)/\W.cell? ⟨B,3,none⟩=some (.string d.v.s)/\W.cell? ⟨B,4,none⟩=some (.int .i64 d.v.i)/\W.cell? ⟨B,5,none⟩=some (.int .i64 d.g.k)/\W.cell? ⟨B,6,none⟩=some (.bool d.g.b)/\W.cell? ⟨B,7,none⟩=some (.float .f64 d.g.x)/\W.cell? ⟨B,8,none⟩=some (.string d.g.s)/\W.cell? ⟨B,9,none⟩=some (.int .i64 d.g.i)/\W.cell? ⟨B,10,none⟩=some (.int .i64 d.s.k)/\W.cell? ⟨B,11,none⟩=some (.bool d.s.b)/\W.cell? ⟨B,12,none⟩=some (.float .f64 d.s.x)/\W.cell? ⟨B,13,none⟩=some (.string d.s.s)/\W.cell? ⟨B,14,none⟩=some (.int .i64 d.s.i)/\W.cell? ⟨B,15,none⟩=some (.int .i64 d.w)/\W.cell? ⟨B,16,none⟩=some (.int .i64 d.e)/\W.cell? ⟨B,17,none⟩=some (.int .i64 d.c)
def VLies (W:World) (B:Nat) (d:VV):Prop:=(∀j,W.frozen? ⟨B,j,none⟩=false)/\W.cell? ⟨B,0,none⟩=some (.int .i64 d.k)/\W.cell? ⟨B,1,none⟩=some (.bool d.b)/\W.cell? ⟨B,2,none⟩=some (.float .f64 d.x)/\W.cell? ⟨B,3,none⟩=some (.string d.s)/\W.cell? ⟨B,4,none⟩=some (.int .i64 d.i)
theorem Lies.new (w:World) (B:Nat) (hB:B=w.heap.size) (d:DD):Lies (w.alloc d.obj) B d:=by
 subst hB
 unfold Lies DD.obj
 simp[go_sem]
theorem Lies.on {W W1:World} {B:Nat} {d:DD} (h:Lies W B d) (hB:B<W.heap.size) (hb:Below W.heap.size W W1):Lies W1 B d:=by
 unfold Lies at *
 simp only[hb.cell (p:=⟨B,_,none⟩) hB,hb.frozen (p:=⟨B,_,none⟩) hB]
 exact h
theorem VLies.new (w:World) (B:Nat) (hB:B=w.heap.size) (d:VV):VLies (w.alloc d.obj) B d:=by
 subst hB
 unfold VLies VV.obj
 simp[go_sem]
theorem VLies.on {W W1:World} {B:Nat} {d:VV} (h:VLies W B d) (hB:B<W.heap.size) (hb:Below W.heap.size W W1):VLies W1 B d:=by
 unfold VLies at *
 simp only[hb.cell (p:=⟨B,_,none⟩) hB,hb.frozen (p:=⟨B,_,none⟩) hB]
 exact h
inductive PB where
 |D (d:DD)
 |V (v:VV)
def PB.obj:PB->Obj
 | .D d=>d.obj
 | .V v=>v.obj
def PB.lies (W:World) (B:Nat):PB->Prop
 | .D d=>Lies W B d
 | .V v=>VLies W B v
theorem PB.new (w:World) (B:Nat) (hB:B=w.heap.size) (p:PB):p.lies (w.alloc p.obj) B:=by
 cases p
 ·exact Lies.new w B hB _
 ·exact VLies.new w B hB _
theorem PB.on {W W1:World} {B:Nat} {p:PB} (h:p.lies W B) (hB:B<W.heap.size) (hb:Below W.heap.size W W1):p.lies W1 B:=by
 cases p
 ·exact Lies.on h hB hb
 ·exact VLies.on h hB hb
theorem PB.drew {W:World} {B:Nat} {p:PB} (h:p.lies W B):p.lies W.drew B:=by
 cases p
 ·exact h
 ·exact h
def HoldsP (W:World) (B:Nat):List PB->Prop
 | []=>True
 |p::r=>p.lies W B/\HoldsP W (B+1) r
theorem HoldsP.on {W W1:World} (hb:Below W.heap.size W W1): ∀{l:List PB} {B:Nat},HoldsP W B l->B+l.length<=W.heap.size->HoldsP W1 B l
 | [],_,_,_=>trivial
 |p::r,B,h,hs=>⟨PB.on h.1 (by simp at hs;omega) hb,HoldsP.on hb h.2 (by simp at hs;omega)⟩
theorem HoldsP.drew {W:World}: ∀{l:List PB} {B:Nat},HoldsP W B l->HoldsP W.drew B l
 | [],_,_=>trivial
 |_::_,_,h=>⟨PB.drew h.1,h.2.drew⟩
theorem HoldsP.snoc {W:World} {p:PB}: ∀{l:List PB} {B:Nat},HoldsP W B l->p.lies W (B+l.length)->HoldsP W B (l++ [p])
 | [],B,_,h=>⟨by simpa using h,trivial⟩
 |q::r,B,hl,h=>⟨hl.1,HoldsP.snoc hl.2 (by
   have e:B+1+r.length=B+(q::r).length:=by
    simp
    omega
   rw[e]
   exact h)⟩
structure Lie (w W:World) (l:List PB):Prop where
 below:Below w.heap.size w W
 size:w.heap.size+l.length<=W.heap.size
 holds:HoldsP W w.heap.size l
theorem Lie.nil (w:World):Lie w w []:=⟨Below.refl _ _,by simp,trivial⟩
theorem Lie.push {w W:World} {l:List PB} (h:Lie w W l) (hs:W.heap.size=w.heap.size+l.length) (p:PB):Lie w (W.alloc p.obj) (l++ [p]):=by
 refine⟨h.below.alloc (by omega) _,by simp;omega,HoldsP.snoc (h.holds.on ((Below.refl _ _).alloc (Nat.le_refl _) _) (by omega)) (PB.new W _ (by omega) p)⟩
theorem Lie.on {w W W1:World} {l:List PB} (h:Lie w W l) (hb:Below W.heap.size W W1):Lie w W1 l:=
 ⟨h.below.trans (hb.mono h.below.size),Nat.le_trans h.size hb.size,h.holds.on hb h.size⟩
theorem Lie.drew {w W:World} {l:List PB} (h:Lie w W l):Lie w W.drew l:=⟨h.below.drew,h.size,h.holds.drew⟩
theorem Lie.new1 (w:World) (p:PB):Lie w (w.alloc p.obj) [p]:=(Lie.nil w).push (by simp) p
theorem Lie.new2 (w:World) (p q:PB):Lie w ((w.alloc p.obj).alloc q.obj) [p,q]:=(Lie.new1 w p).push (by simp) q
theorem Lie.new3 (w:World) (p q r:PB):Lie w (((w.alloc p.obj).alloc q.obj).alloc r.obj) [p,q,r]:=(Lie.new2 w p q).push (by simp) r
theorem Lie.one {w W:World} {p:PB} {l:List PB} (h:Lie w W (p::l)):p.lies W w.heap.size:=h.holds.1
theorem Lie.two {w W:World} {p q:PB} {l:List PB} (h:Lie w W (p::q::l)):q.lies W (w.heap.size+1):=h.holds.2.1
theorem Lie.three {w W:World} {p q r:PB} {l:List PB} (h:Lie w W (p::q::r::l)):r.lies W (w.heap.size+2):=h.holds.2.2.1
end
section
open Go.RowKit FM
attribute [local go_sem] Kj
theorem m56 (w : World) : (method 386 165 (.agg #[]) "cameo/value.kind").run Tryz.prog w = .ok (218, .agg #[]) w := by kernel_rfl
theorem m57 (w : World) : (method 386 166 (.agg #[]) "cameo/value.kind").run Tryz.prog w = .ok (219, .agg #[]) w := by kernel_rfl
theorem m58 (b : Bool) (w : World) : (method 386 167 (.bool b) "cameo/value.kind").run Tryz.prog w = .ok (220, .bool b) w := by kernel_rfl
theorem m59 (x : Nat) (w : World) : (method 386 168 (.float .f64 x) "cameo/value.kind").run Tryz.prog w = .ok (221, .float .f64 x) w := by kernel_rfl
theorem m79 (s : ByteArray) (w : World) : (method 386 170 (.string s) "cameo/value.kind").run Tryz.prog w = .ok (222, .string s) w := by kernel_rfl
theorem m81 (i : Int) (w : World) : (method 386 171 (.int .i64 i) "cameo/value.kind").run Tryz.prog w = .ok (223, .int .i64 i) w := by kernel_rfl
theorem m82 (i : Int) (w : World) : (method 386 172 (.int .i64 i) "cameo/value.kind").run Tryz.prog w = .ok (224, .int .i64 i) w := by kernel_rfl
theorem Ei (P:Program) (w:World) (a:Addr) (m:Mode) (k:FloatKind) (x:Nat):(store a (.float k x) m).run P w=stored P w a (.float k x) m:=run_store P w a _ m rfl
theorem ta56 (u:TypeId) (v:Value) (w:World):(Instr.typeAssert (.iface u v) 147 165 true).run Tryz.prog w= .ok (if u=165 then .tuple #[v, .bool true] else .tuple #[.agg #[], .bool false]) w:=by
 by_cases h:u=165<;>simp[Instr.typeAssert,run_underlying Tryz.underlying165,h,Tryz.zeroValue165]
theorem ta57 (u:TypeId) (v:Value) (w:World):(Instr.typeAssert (.iface u v) 147 166 true).run Tryz.prog w= .ok (if u=166 then .tuple #[v, .bool true] else .tuple #[.agg #[], .bool false]) w:=by
 by_cases h:u=166<;>simp[Instr.typeAssert,run_underlying Tryz.underlying166,h,Tryz.zeroValue166]
theorem ta58 (u:TypeId) (v:Value) (w:World):(Instr.typeAssert (.iface u v) 147 167 true).run Tryz.prog w= .ok (if u=167 then .tuple #[v, .bool true] else .tuple #[.bool false, .bool false]) w:=by
 by_cases h:u=167<;>simp[Instr.typeAssert,run_underlying Tryz.underlying167,h,Tryz.zeroValue167]
theorem ta59 (u:TypeId) (v:Value) (w:World):(Instr.typeAssert (.iface u v) 147 168 true).run Tryz.prog w= .ok (if u=168 then .tuple #[v, .bool true] else .tuple #[.float .f64 0, .bool false]) w:=by
 by_cases h:u=168<;>simp[Instr.typeAssert,run_underlying Tryz.underlying168,h,Tryz.zeroValue168]
theorem ta79 (u:TypeId) (v:Value) (w:World):(Instr.typeAssert (.iface u v) 147 170 true).run Tryz.prog w= .ok (if u=170 then .tuple #[v, .bool true] else .tuple #[.string ⟨#[]⟩, .bool false]) w:=by
 by_cases h:u=170<;>simp[Instr.typeAssert,run_underlying Tryz.underlying170,h,Tryz.zeroValue170]
theorem ta81 (u:TypeId) (v:Value) (w:World):(Instr.typeAssert (.iface u v) 147 171 true).run Tryz.prog w= .ok (if u=171 then .tuple #[v, .bool true] else .tuple #[.int .i64 0, .bool false]) w:=by
 by_cases h:u=171<;>simp[Instr.typeAssert,run_underlying Tryz.underlying171,h,Tryz.zeroValue171]
theorem ta82 (u:TypeId) (v:Value) (w:World):(Instr.typeAssert (.iface u v) 147 172 true).run Tryz.prog w= .ok (if u=172 then .tuple #[v, .bool true] else .tuple #[.int .i64 0, .bool false]) w:=by
 by_cases h:u=172<;>simp[Instr.typeAssert,run_underlying Tryz.underlying172,h,Tryz.zeroValue172]
attribute [local go_sem] m56 m57 m58 m59 m79 m81 m82 Ei ta56 ta57 ta58 ta59 ta79 ta81 ta82
theorem Ly (w:World) (o1 o2:Obj):Below w.heap.size w ((w.alloc o1).alloc o2):=((Below.refl _ _).alloc (Nat.le_refl _) _).alloc (by simp) _
theorem below3 (w:World) (o1 o2 o3:Obj):Below w.heap.size w (((w.alloc o1).alloc o2).alloc o3):=(Ly w o1 o2).alloc (by simp;omega) _
theorem outside1 (w:World):Calls Tryz.prog 121 #[.iface 165 (.agg #[])] w fun e w'=>e= .returned (VV.agg ⟨1,false,0,ByteArray.empty,0⟩)/\Below w.heap.size w w':=by
 unfold VV.agg
 go_enter Tryz.func121,Tryz.ntmps121
 go_wp2
 simp[bodyPost,results,Tryz.results121,go_sem]
 exact⟨rfl,below3 ..⟩
theorem Za0 {v:VV} (h:v.good=true):Zcz v=v.ifc:=by
 unfold VV.good Nh at h
 unfold Zcz inI
 rw[if_pos h]
end
section
open Go.RowKit FM
attribute [local go_sem] Kj Ei
theorem ZcY (x:Nat) (hx:x<2^64):(FloatKind.f64.format.order x 0==some .eq)=(decide (x=0)||decide (x=9223372036854775808)):=by
 rw[eq_order x 0 hx (by decide)]
 unfold Zdy Zda Na
 have e1:isN 0=false:=by decide+kernel
 have e2:sz 0=0:=by decide+kernel
 rw[e1,e2]
 by_cases h:sz x=0
 ·rw[sz0_nan h]
  unfold sz at h
  have:x=0∨x=9223372036854775808:=by omega
  rcases this with rfl|rfl<;>simp[sz]
 ·have h1: ¬x=0:=by rintro rfl;exact h e2
  have h2: ¬x=9223372036854775808:=by rintro rfl;exact h (by decide+kernel)
  simp[h,h1,h2]
theorem quo_pos (w:World):(binOp .quo 34 (.float .f64 4607182418800017408) (.float .f64 0)).run Tryz.prog w= .ok (.float .f64 9218868437227405312) w:=by kernel_rfl
theorem quo_neg (w:World):(binOp .quo 34 (.float .f64 4607182418800017408) (.float .f64 9223372036854775808)).run Tryz.prog w= .ok (.float .f64 18442240474082181120) w:=by kernel_rfl
end
section
open Go Go.Proofs Go.RowKit FM Tryz
theorem Nb {P:Program} (d:Nat) (t:TypeId) (a b:Nat) (w:World) (h:P.underlying t=some (.float .f64)):(Op.equalIn (d+1) t (.float .f64 a) (.float .f64 b)).run P w= .ok (FloatKind.f64.format.order a b==some .eq) w:=by
 simp[Op.equalIn,run_underlying h]
 rfl
section
attribute [local go_sem] Kj
theorem Zce (x:Nat) (hx:x<2^64) (w:World):Calls prog 118 #[.float .f64 x] w fun e w'=>e= .returned (.bool (decide (2^63<=x)))/\w'=w:=by
 have h:(wrap64 (x:Int)<0)=(2^63<=x):=by
  unfold wrap64
  rw[eq_iff_iff]
  omega
 go_enter func118,ntmps118
 go_wp2
 go_ret
 exact⟨by simp,rfl⟩
end
def thV (v:VV):Bool:= !(v.k==0 && !v.b && v.x==0 && v.s.toList.isEmpty && v.i==0)
attribute [local go_sem] Nb
theorem Gl (v:VV) (hx:v.x<2^64) (w:World):Calls prog 103 #[v.agg] w fun e w'=>e= .returned (.bool (thV v))/\Below w.heap.size w w':=by
 have hz:=ZcY v.x hx
 have HS:=Ab (Zce v.x hx)
 obtain⟨k,b,x,s,i⟩:=v
 unfold VV.agg thV
 dsimp only at *
 by_cases hk:k=0
 ·subst hk
  cases b
  ·generalize hq:(FloatKind.f64.format.order x 0==some .eq)=q at *
   cases q
   ·have hx0:(x==0)=false:=by
     simp at hz
     simp[hz]
    rw[hx0]
    have hq2: ¬FloatKind.f64.format.order x 0=some .eq:=by simpa using hq
    clear hz hq HS hx hx0
    go_enter func103,ntmps103
    go_wp2
    go_ret
    exact⟨rfl,(Below.refl w.heap.size w).alloc (Nat.le_refl _) _⟩
   ·have hx0:x=0∨x=2^63:=by
     simp at hz
     omega
    have hq2:FloatKind.f64.format.order x 0=some .eq:=by simpa using hq
    by_cases hs:s.toList.isEmpty=true
    ·have hs2:=Vc hs
     subst hs2
     by_cases hi:i=0
     ·subst hi
      have hr:(!((0:Int)==0 && !false && x==0 && ByteArray.empty.toList.isEmpty && (0:Int)==0))=decide (2^63<=x):=by
       rw[hs]
       rcases hx0 with rfl|rfl<;>rfl
      rw[hr]
      generalize decide (2^63<=x)=r at *
      clear hz hq hx hx0 hr hs
      go_enter func103,ntmps103
      go_wp2_with fail
      refine(Aa HS _).mono ?_
      rintro e w1 ⟨rfl,rfl⟩
      go_wp2
      go_ret
      exact⟨rfl,(Below.refl w.heap.size w).alloc (Nat.le_refl _) _⟩
     ·have hi2:(i==0)=false:=by simp[hi]
      rw[hi2,Bool.and_false]
      clear hz hq hx hx0 hs HS
      go_enter func103,ntmps103
      go_wp2
      go_ret
      exact⟨rfl,(Below.refl w.heap.size w).alloc (Nat.le_refl _) _⟩
    ·have hs1:s.toList.isEmpty=false:=by simpa using hs
     have hs2: ¬s.toList= []:=by simpa using hs1
     rw[hs1,Bool.and_false,Bool.false_and]
     clear hz hq hx hx0 hs HS hs1
     go_enter func103,ntmps103
     go_wp2
     go_ret
     exact⟨rfl,(Below.refl w.heap.size w).alloc (Nat.le_refl _) _⟩
  ·clear hz HS hx
   go_enter func103,ntmps103
   go_wp2
   go_ret
   exact⟨rfl,(Below.refl w.heap.size w).alloc (Nat.le_refl _) _⟩
 ·clear hz HS hx
  have hk2:(k==0)=false:=by simp[hk]
  rw[hk2]
  go_enter func103,ntmps103
  go_wp2
  go_ret
  exact⟨rfl,(Below.refl w.heap.size w).alloc (Nat.le_refl _) _⟩
def Di (d:DD):Int:=if (thV d.v||d.w !=0) && (thV d.g||thV d.s) then 0 else if thV d.v||d.w !=0 then 2 else if thV d.g||thV d.s then 3 else 1
def Pi (t:Int):Bool:=t==0||t==1||t==2
theorem Ea (t:Int) (w:World):Calls prog 106 #[.int .i64 t] w fun e w'=>e= .returned (.bool (t !=0))/\w'=w:=by
 go_enter func106,ntmps106
 go_wp2
 go_ret
 exact⟨rfl,rfl⟩
theorem Gz (t:Int) (w:World):Calls prog 105 #[.int .i64 t] w fun e w'=>e= .returned (.bool (Pi t))/\w'=w:=by
 unfold Pi
 by_cases h0:t=0
 ·subst h0
  go_enter func105,ntmps105
  go_wp2
  go_ret
  exact⟨rfl,rfl⟩
 ·have h0':(t==0)=false:=by simp[h0]
  by_cases h1:t=1
  ·subst h1
   go_enter func105,ntmps105
   go_wp2
   go_ret
   exact⟨rfl,rfl⟩
  ·have h1':(t==1)=false:=by simp[h1]
   rw[h0',h1']
   go_enter func105,ntmps105
   go_wp2
   go_ret
   exact⟨rfl,rfl⟩
def FD (d:DD):Prop:=d.v.x<2^64/\d.g.x<2^64/\d.s.x<2^64
theorem ZeA (t a:Int) (w:World):Calls prog 114 #[.int .i64 t, .int .i64 a] w fun e w'=>e= .returned (.int .i64 (if t !=0 then t else a))/\w'=w:=by
 by_cases h:t=0
 ·subst h
  go_enter func114,ntmps114
  go_wp2_with (go_at_call 106;refine(Ea _ _).mono ?_;rintro _ _ ⟨rfl,rfl⟩)
  go_ret
  exact⟨rfl,rfl⟩
 ·have h':(t !=0)=true:=by simp[h]
  rw[h',if_pos rfl]
  go_enter func114,ntmps114
  go_wp2_with (go_at_call 106;refine(Ea _ _).mono ?_;rintro _ _ ⟨rfl,rfl⟩)
  go_ret
  exact⟨rfl,rfl⟩
section
attribute [local go_sem] quo_pos quo_neg
end
end
section
open Go.RowKit FM
attribute [local go_sem] Kj Ei
structure Five (w:World) (B:Nat) (c0 c1 c2 c3 c4:Value):Prop where
 h0:w.cell? ⟨B,0,none⟩=some c0
 h1:w.cell? ⟨B,1,none⟩=some c1
 h2:w.cell? ⟨B,2,none⟩=some c2
 h3:w.cell? ⟨B,3,none⟩=some c3
 h4:w.cell? ⟨B,4,none⟩=some c4
 fz: ∀j,w.frozen? ⟨B,j,none⟩=false
 lt:B<w.heap.size
theorem Ux (w:World) (B:Nat) (c0 c1 c2 c3 c4:Value) (t:TypeId) (hB:B=w.heap.size):Five (w.alloc (Obj.cells #[c0,c1,c2,c3,c4] t)) B c0 c1 c2 c3 c4:=by
 subst hB
 refine⟨?_, ?_, ?_, ?_, ?_,fun j=> ?_, ?_⟩<;>simp[go_sem]
theorem Oq {w w':World} {B:Nat} {c0 c1 c2 c3 c4:Value} (h:Five w B c0 c1 c2 c3 c4) (hb:Below w.heap.size w w'):Five w' B c0 c1 c2 c3 c4:=
 ⟨(hb.cell h.lt).trans h.h0,(hb.cell h.lt).trans h.h1,(hb.cell h.lt).trans h.h2,(hb.cell h.lt).trans h.h3,(hb.cell h.lt).trans h.h4,fun j=>(hb.frozen h.lt).trans (h.fz j),Nat.lt_of_lt_of_le h.lt hb.size⟩
theorem set5 {w W:World} {B:Nat} {v0 v1 v2 v3 v4:Value} (h:Below w.heap.size w W) (hB:w.heap.size<=B):
  Below w.heap.size w (((((W.setCell ⟨B,0,none⟩ v0).setCell ⟨B,1,none⟩ v1).setCell ⟨B,2,none⟩ v2).setCell ⟨B,3,none⟩ v3).setCell ⟨B,4,none⟩ v4):=
 ((((h.setCell hB _).setCell hB _).setCell hB _).setCell hB _).setCell hB _

def Zau (b:Bool):Int:=if b then 0 else 5
theorem Mo (v:VV) (w:World) (hT:Lib.Utf8Tabs 1 2 w):Calls Tryz.prog 52 #[v.agg] w fun e w'=>e= .returned (.int .i64 (Zau v.good))/\Below w.heap.size w w':=by
 have HI:=Ab (Oo v.k v.b v.x v.s v.i)
 have HT:=Ab hT
 clear hT
 unfold VV.good
 generalize Nh v.k v.b v.x v.s v.i=g at *
 generalize Zcz ⟨v.k,v.b,v.x,v.s,v.i⟩=f at *
 obtain⟨k,b,x,s,i⟩:=v
 unfold VV.agg at *
 dsimp only at *
 cases g
 all_goals
  go_enter Tryz.func52,Tryz.ntmps52
  go_wp2_with fail
  refine(Aa HI _ (Au (Aa HT) ((Below.refl _ _).alloc (Nat.le_refl _) _))).mono ?_
  rintro e w1 ⟨rfl,hb⟩
  go_wp2
  go_ret
  exact⟨rfl,((Below.refl _ _).alloc (Nat.le_refl _) _).trans (hb.mono (by simp))⟩
theorem Gp (w:World):Calls Tryz.prog 113 #[] w fun e w'=>e= .returned (VV.agg ⟨1,false,0,ByteArray.empty,0⟩)/\Below w.heap.size w w':=by
 have HO:=Ab (outside1)
 unfold VV.agg at *
 dsimp only at *
 go_enter Tryz.func113,Tryz.ntmps113
 go_wp2_with fail
 refine(Aa HO _).mono ?_
 rintro e w1 ⟨rfl,hb⟩
 have hB:=((Below.refl w.heap.size w).alloc (Nat.le_refl _) _).trans (hb.mono (by simp))
 obtain⟨r0,r1,r2,r3,r4,rf,rl⟩:=Oq (Ux _ w.heap.size _ _ _ _ _ _ rfl) hb
 clear hb HO
 go_wp2
 simp[bodyPost,results,Tryz.results113,go_sem,r0,r1,r2,r3,r4]
 exact set5 hB (by omega)
def eqB (a b:VV):Bool:=(decide (a.x=b.x)||isN a.x && isN b.x) && a.k==b.k && a.b==b.b && decide (a.s.toList=b.s.toList) && a.i==b.i
theorem Qe (a b:VV) (w:World):Calls Tryz.prog 13 #[a.agg,b.agg] w fun e w'=>e= .returned (.bool (eqB a b))/\Below w.heap.size w w':=by
 have ha:=nanF a.x
 have hb:=nanF b.x
 obtain⟨k,b,x,s,i⟩:=a
 rename_i b'
 obtain⟨k',c,x',s',i'⟩:=b'
 unfold VV.agg
 dsimp only at *
 rw[←fo] at ha hb
 have hg:eqB ⟨k,b,x,s,i⟩ ⟨k',c,x',s',i'⟩=((decide (x=x')||isN x && isN x') && k==k' && b==c && decide (s.toList=s'.toList) && i==i'):=rfl
 rw[hg]
 clear hg
 generalize isN x=nx at *
 generalize isN x'=nx' at *
 cases nx
 ·by_cases hx:x=x'
  ·subst hx
   go_enter Tryz.func13,Tryz.ntmps13
   go_wp2
   go_quiet (fail)
   go_wp2
   all_goals
    go_ret
    refine⟨?_,(Ly w _ _).trans (Lm _ _ _)⟩
    simp[*]
  ·have hxi:((x:Int)==(x':Int))=false:=by rw[beq_eq_false_iff_ne];omega
   go_enter Tryz.func13,Tryz.ntmps13
   go_wp2
   go_quiet (fail)
   go_wp2
   all_goals
    go_ret
    refine⟨?_,(Ly w _ _).trans (Lm _ _ _)⟩
    simp[*]
 ·by_cases hx:x=x'
  ·subst hx
   go_enter Tryz.func13,Tryz.ntmps13
   go_wp2
   go_quiet (fail)
   go_wp2
   all_goals
    go_ret
    refine⟨?_,(Ly w _ _).trans (Lm _ _ _)⟩
    simp[*]
  ·have hxi:((x:Int)==(x':Int))=false:=by rw[beq_eq_false_iff_ne];omega
   cases nx'
   all_goals
    go_enter Tryz.func13,Tryz.ntmps13
    go_wp2
    go_quiet (fail)
    go_wp2
    all_goals
     go_ret
     refine⟨?_,(Ly w _ _).trans (Lm _ _ _)⟩
     simp[*]
