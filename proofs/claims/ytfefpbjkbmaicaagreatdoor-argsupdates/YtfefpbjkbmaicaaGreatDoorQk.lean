import Derived.Test.YtfefpbjkbmaicaaGreatDoorQi
import Derived.Maps.OwnSet
import Derived.Maps.Own
import Derived.DeepKeys4
import Derived.Laws.AppendOwn
import Derived.Deep.LoopGhost
import Derived.Sort.Statements
import Derived.BigRegion
import Derived.Laws.OwnMore
import Derived.Laws.MakeOwn
import Derived.Deep.MidRow
import Derived.BigFrame
import Derived.Laws.AppendOwnNone
import Derived.OwnWalk
import Derived.Great.BuildSlice
import Derived.RangeFuncRecord
import Derived.Shelf.Strconv.Itoa0
import Derived.Shelf.Strconv.Itoa1
import Derived.Shelf.Small.Bits
import Derived.Shelf.Strconv.Itoa2
import Derived.Laws.StructEq
import Derived.Lib.ItoaMem
import Derived.Lib.AppendIntMem
set_option linter.all false
namespace Go.Proofs.YtfefpbjkbmaicaaGreatDoor
set_option maxRecDepth 100000
set_option maxHeartbeats 0
section
open Go Go.Proofs Go.RowKit
structure DD where
 v:VV
 g:VV
 s:VV
 w:Int
 e:Int
 c:Int
def DD.agg (d:DD):Value:= .agg #[.int .i64 d.v.k, .bool d.v.b, .float .f64 d.v.x, .string d.v.s, .int .i64 d.v.i, .int .i64 d.g.k, .bool d.g.b, .float .f64 d.g.x, .string d.g.s, .int .i64 d.g.i, .int .i64 d.s.k, .bool d.s.b, .float .f64 d.s.x, .string d.s.s, .int .i64 d.s.i, .int .i64 d.w, .int .i64 d.e, .int .i64 d.c]
theorem Gi (n:DD):n.agg= .agg #[.int .i64 n.v.k, .bool n.v.b, .float .f64 n.v.x, .string n.v.s, .int .i64 n.v.i, .int .i64 n.g.k, .bool n.g.b, .float .f64 n.g.x, .string n.g.s, .int .i64 n.g.i, .int .i64 n.s.k, .bool n.s.b, .float .f64 n.s.x, .string n.s.s, .int .i64 n.s.i, .int .i64 n.w, .int .i64 n.e, .int .i64 n.c]:=rfl
def DD.obj (d:DD):Obj:=Obj.cells #[.int .i64 d.v.k, .bool d.v.b, .float .f64 d.v.x, .string d.v.s, .int .i64 d.v.i, .int .i64 d.g.k, .bool d.g.b, .float .f64 d.g.x, .string d.g.s, .int .i64 d.g.i, .int .i64 d.s.k, .bool d.s.b, .float .f64 d.s.x, .string d.s.s, .int .i64 d.s.i, .int .i64 d.w, .int .i64 d.e, .int .i64 d.c] 29
def VV.obj (d:VV):Obj:=Obj.cells #[.int .i64 d.k, .bool d.b, .float .f64 d.x, .string d.s, .int .i64 d.i] 26
def Bz:VV:=⟨0,false,0,⟨#[]⟩,0⟩
def Bx:DD:=⟨Bz,Bz,Bz,0,0,0⟩
def Lies (W:World) (B:Nat) (d:DD):Prop:=(∀j,W.frozen? ⟨B,j,none⟩=false)/\W.cell? ⟨B,0,none⟩=some (.int .i64 d.v.k)/\W.cell? ⟨B,1,none⟩=some (.bool d.v.b)/\W.cell? ⟨B,2,none⟩=some (.float .f64 d.v.x)/\W.cell? ⟨B,3,none⟩=some (.string d.v.s)/\W.cell? ⟨B,4,none⟩=some (.int .i64 d.v.i)/\W.cell? ⟨B,5,none⟩=some (.int .i64 d.g.k)/\W.cell? ⟨B,6,none⟩=some (.bool d.g.b)/\W.cell? ⟨B,7,none⟩=some (.float .f64 d.g.x)/\W.cell? ⟨B,8,none⟩=some (.string d.g.s)/\W.cell? ⟨B,9,none⟩=some (.int .i64 d.g.i)/\W.cell? ⟨B,10,none⟩=some (.int .i64 d.s.k)/\W.cell? ⟨B,11,none⟩=some (.bool d.s.b)/\W.cell? ⟨B,12,none⟩=some (.float .f64 d.s.x)/\W.cell? ⟨B,13,none⟩=some (.string d.s.s)/\W.cell? ⟨B,14,none⟩=some (.int .i64 d.s.i)/\W.cell? ⟨B,15,none⟩=some (.int .i64 d.w)/\W.cell? ⟨B,16,none⟩=some (.int .i64 d.e)/\W.cell? ⟨B,17,none⟩=some (.int .i64 d.c)
def VLies (W:World) (B:Nat) (d:VV):Prop:=(∀j,W.frozen? ⟨B,j,none⟩=false)/\W.cell? ⟨B,0,none⟩=some (.int .i64 d.k)/\W.cell? ⟨B,1,none⟩=some (.bool d.b)/\W.cell? ⟨B,2,none⟩=some (.float .f64 d.x)/\W.cell? ⟨B,3,none⟩=some (.string d.s)/\W.cell? ⟨B,4,none⟩=some (.int .i64 d.i)
theorem Lies.new (w:World) (B:Nat) (hB:B=w.heap.size) (d:DD):Lies (w.alloc d.obj) B d:=by
 subst hB
 unfold Lies DD.obj
 simp[go_sem]
theorem Lies.on {W W1:World} {B:Nat} {d:DD} (h:Lies W B d) (hB:B<W.heap.size) (hb:Below W.heap.size W W1):Lies W1 B d:=by
 unfold Lies at *
 simp only[hb.cell (p:=⟨B,_,none⟩) hB,hb.frozen (p:=⟨B,_,none⟩) hB]
 exact h
theorem VLies.new (w:World) (B:Nat) (hB:B=w.heap.size) (d:VV):VLies (w.alloc d.obj) B d:=by
 subst hB
 unfold VLies VV.obj
 simp[go_sem]
theorem VLies.on {W W1:World} {B:Nat} {d:VV} (h:VLies W B d) (hB:B<W.heap.size) (hb:Below W.heap.size W W1):VLies W1 B d:=by
 unfold VLies at *
 simp only[hb.cell (p:=⟨B,_,none⟩) hB,hb.frozen (p:=⟨B,_,none⟩) hB]
 exact h
inductive PB where
 |D (d:DD)
 |V (v:VV)
def PB.obj:PB->Obj
 | .D d=>d.obj
 | .V v=>v.obj
def PB.lies (W:World) (B:Nat):PB->Prop
 | .D d=>Lies W B d
 | .V v=>VLies W B v
theorem PB.new (w:World) (B:Nat) (hB:B=w.heap.size) (p:PB):p.lies (w.alloc p.obj) B:=by
 cases p
 ·exact Lies.new w B hB _
 ·exact VLies.new w B hB _
theorem PB.on {W W1:World} {B:Nat} {p:PB} (h:p.lies W B) (hB:B<W.heap.size) (hb:Below W.heap.size W W1):p.lies W1 B:=by
 cases p
 ·exact Lies.on h hB hb
 ·exact VLies.on h hB hb
theorem PB.drew {W:World} {B:Nat} {p:PB} (h:p.lies W B):p.lies W.drew B:=by
 cases p
 ·exact h
 ·exact h
def HoldsP (W:World) (B:Nat):List PB->Prop
 | []=>True
 |p::r=>p.lies W B/\HoldsP W (B+1) r
theorem HoldsP.on {W W1:World} (hb:Below W.heap.size W W1): ∀{l:List PB} {B:Nat},HoldsP W B l->B+l.length<=W.heap.size->HoldsP W1 B l
 | [],_,_,_=>trivial
 |p::r,B,h,hs=>⟨PB.on h.1 (by simp at hs;omega) hb,HoldsP.on hb h.2 (by simp at hs;omega)⟩
theorem HoldsP.drew {W:World}: ∀{l:List PB} {B:Nat},HoldsP W B l->HoldsP W.drew B l
 | [],_,_=>trivial
 |_::_,_,h=>⟨PB.drew h.1,h.2.drew⟩
theorem HoldsP.snoc {W:World} {p:PB}: ∀{l:List PB} {B:Nat},HoldsP W B l->p.lies W (B+l.length)->HoldsP W B (l++ [p])
 | [],B,_,h=>⟨by simpa using h,trivial⟩
 |q::r,B,hl,h=>⟨hl.1,HoldsP.snoc hl.2 (by
   have e:B+1+r.length=B+(q::r).length:=by
    simp
    omega
   rw[e]
   exact h)⟩
structure Lie (w W:World) (l:List PB):Prop where
 below:Below w.heap.size w W
 size:w.heap.size+l.length<=W.heap.size
 holds:HoldsP W w.heap.size l
theorem Lie.nil (w:World):Lie w w []:=⟨Below.refl _ _,by simp,trivial⟩
theorem Lie.push {w W:World} {l:List PB} (h:Lie w W l) (hs:W.heap.size=w.heap.size+l.length) (p:PB):Lie w (W.alloc p.obj) (l++ [p]):=by
 refine⟨h.below.alloc (by omega) _,by simp;omega,HoldsP.snoc (h.holds.on ((Below.refl _ _).alloc (Nat.le_refl _) _) (by omega)) (PB.new W _ (by omega) p)⟩
theorem Lie.on {w W W1:World} {l:List PB} (h:Lie w W l) (hb:Below W.heap.size W W1):Lie w W1 l:=
 ⟨h.below.trans (hb.mono h.below.size),Nat.le_trans h.size hb.size,h.holds.on hb h.size⟩
theorem Lie.drew {w W:World} {l:List PB} (h:Lie w W l):Lie w W.drew l:=⟨h.below.drew,h.size,h.holds.drew⟩
theorem Lie.new1 (w:World) (p:PB):Lie w (w.alloc p.obj) [p]:=(Lie.nil w).push (by simp) p
theorem Lie.new2 (w:World) (p q:PB):Lie w ((w.alloc p.obj).alloc q.obj) [p,q]:=(Lie.new1 w p).push (by simp) q
theorem Lie.new3 (w:World) (p q r:PB):Lie w (((w.alloc p.obj).alloc q.obj).alloc r.obj) [p,q,r]:=(Lie.new2 w p q).push (by simp) r
theorem Lie.one {w W:World} {p:PB} {l:List PB} (h:Lie w W (p::l)):p.lies W w.heap.size:=h.holds.1
theorem Lie.two {w W:World} {p q:PB} {l:List PB} (h:Lie w W (p::q::l)):q.lies W (w.heap.size+1):=h.holds.2.1
theorem Lie.three {w W:World} {p q r:PB} {l:List PB} (h:Lie w W (p::q::r::l)):r.lies W (w.heap.size+2):=h.holds.2.2.1
end
section
open Go Go.Proofs Go.RowKit FM Tryz
theorem Ji {P:Program} (d:Nat) (t:TypeId) (a b:Nat) (w:World) (h:P.underlying t=some (.float .f64)):(Op.equalIn (d+1) t (.float .f64 a) (.float .f64 b)).run P w= .ok (FloatKind.f64.format.order a b==some .eq) w:=by
 simp[Op.equalIn,run_underlying h]
 rfl
section
attribute [local go_sem] Gx
theorem Yw (x:Nat) (hx:x<2^64) (w:World):Calls prog 113 #[.float .f64 x] w fun e w'=>e= .returned (.bool (decide (2^63<=x)))/\w'=w:=by
 have h:(wrap64 (x:Int)<0)=(2^63<=x):=by
  unfold wrap64
  rw[eq_iff_iff]
  omega
 go_enter func113,ntmps113
 go_wp2
 go_ret
 exact⟨by simp,rfl⟩
end
def thV (v:VV):Bool:= !(v.k==0 && !v.b && v.x==0 && v.s.toList.isEmpty && v.i==0)
attribute [local go_sem] Ji
theorem Ey (v:VV) (hx:v.x<2^64) (w:World):Calls prog 97 #[v.agg] w fun e w'=>e= .returned (.bool (thV v))/\Below w.heap.size w w':=by
 have hz:=Lw v.x hx
 have HS:=Ac (Yw v.x hx)
 obtain⟨k,b,x,s,i⟩:=v
 unfold VV.agg thV
 dsimp only at *
 by_cases hk:k=0
 ·subst hk
  cases b
  ·generalize hq:(FloatKind.f64.format.order x 0==some .eq)=q at *
   cases q
   ·have hx0:(x==0)=false:=by
     simp at hz
     simp[hz]
    rw[hx0]
    have hq2: ¬FloatKind.f64.format.order x 0=some .eq:=by simpa using hq
    clear hz hq HS hx hx0
    go_enter func97,ntmps97
    go_wp2
    go_ret
    exact⟨rfl,(Below.refl w.heap.size w).alloc (Nat.le_refl _) _⟩
   ·have hx0:x=0∨x=2^63:=by
     simp at hz
     omega
    have hq2:FloatKind.f64.format.order x 0=some .eq:=by simpa using hq
    by_cases hs:s.toList.isEmpty=true
    ·have hs2:=Ni hs
     subst hs2
     by_cases hi:i=0
     ·subst hi
      have hr:(!((0:Int)==0 && !false && x==0 && ByteArray.empty.toList.isEmpty && (0:Int)==0))=decide (2^63<=x):=by
       rw[hs]
       rcases hx0 with rfl|rfl<;>rfl
      rw[hr]
      generalize decide (2^63<=x)=r at *
      clear hz hq hx hx0 hr hs
      go_enter func97,ntmps97
      go_wp2_with fail
      refine(Aa HS _).mono ?_
      rintro e w1 ⟨rfl,rfl⟩
      go_wp2
      go_ret
      exact⟨rfl,(Below.refl w.heap.size w).alloc (Nat.le_refl _) _⟩
     ·have hi2:(i==0)=false:=by simp[hi]
      rw[hi2,Bool.and_false]
      clear hz hq hx hx0 hs HS
      go_enter func97,ntmps97
      go_wp2
      go_ret
      exact⟨rfl,(Below.refl w.heap.size w).alloc (Nat.le_refl _) _⟩
    ·have hs1:s.toList.isEmpty=false:=by simpa using hs
     have hs2: ¬s.toList= []:=by simpa using hs1
     rw[hs1,Bool.and_false,Bool.false_and]
     clear hz hq hx hx0 hs HS hs1
     go_enter func97,ntmps97
     go_wp2
     go_ret
     exact⟨rfl,(Below.refl w.heap.size w).alloc (Nat.le_refl _) _⟩
  ·clear hz HS hx
   go_enter func97,ntmps97
   go_wp2
   go_ret
   exact⟨rfl,(Below.refl w.heap.size w).alloc (Nat.le_refl _) _⟩
 ·clear hz HS hx
  have hk2:(k==0)=false:=by simp[hk]
  rw[hk2]
  go_enter func97,ntmps97
  go_wp2
  go_ret
  exact⟨rfl,(Below.refl w.heap.size w).alloc (Nat.le_refl _) _⟩
def Df (d:DD):Int:=if (thV d.v||d.w !=0) && (thV d.g||thV d.s) then 0 else if thV d.v||d.w !=0 then 2 else if thV d.g||thV d.s then 3 else 1
def Ks (t:Int):Bool:=t==0||t==1||t==2
theorem Ae (t:Int) (w:World):Calls prog 100 #[.int .i64 t] w fun e w'=>e= .returned (.bool (t !=0))/\w'=w:=by
 go_enter func100,ntmps100
 go_wp2
 go_ret
 exact⟨rfl,rfl⟩
theorem Ab (t:Int) (w:World):Calls prog 99 #[.int .i64 t] w fun e w'=>e= .returned (.bool (Ks t))/\w'=w:=by
 unfold Ks
 by_cases h0:t=0
 ·subst h0
  go_enter func99,ntmps99
  go_wp2
  go_ret
  exact⟨rfl,rfl⟩
 ·have h0':(t==0)=false:=by simp[h0]
  by_cases h1:t=1
  ·subst h1
   go_enter func99,ntmps99
   go_wp2
   go_ret
   exact⟨rfl,rfl⟩
  ·have h1':(t==1)=false:=by simp[h1]
   rw[h0',h1']
   go_enter func99,ntmps99
   go_wp2
   go_ret
   exact⟨rfl,rfl⟩
theorem Ad (t:Int) (w:World):Calls prog 72 #[.int .i64 t] w fun e w'=>e= .returned (.bool (Ks t))/\w'=w:=by
 unfold Ks
 by_cases h0:t=0
 ·subst h0
  go_enter func72,ntmps72
  go_wp2
  go_ret
  exact⟨rfl,rfl⟩
 ·have h0':(t==0)=false:=by simp[h0]
  by_cases h1:t=1
  ·subst h1
   go_enter func72,ntmps72
   go_wp2
   go_ret
   exact⟨rfl,rfl⟩
  ·have h1':(t==1)=false:=by simp[h1]
   rw[h0',h1']
   go_enter func72,ntmps72
   go_wp2
   go_ret
   exact⟨rfl,rfl⟩
def FD (d:DD):Prop:=d.v.x<2^64/\d.g.x<2^64/\d.s.x<2^64
theorem ZbW (t a:Int) (w:World):Calls prog 122 #[.int .i64 t, .int .i64 a] w fun e w'=>e= .returned (.int .i64 (if t !=0 then t else a))/\w'=w:=by
 by_cases h:t=0
 ·subst h
  go_enter func122,ntmps122
  go_wp2_with (go_at_call 100;refine(Ae _ _).mono ?_;rintro _ _ ⟨rfl,rfl⟩)
  go_ret
  exact⟨rfl,rfl⟩
 ·have h':(t !=0)=true:=by simp[h]
  rw[h',if_pos rfl]
  go_enter func122,ntmps122
  go_wp2_with (go_at_call 100;refine(Ae _ _).mono ?_;rintro _ _ ⟨rfl,rfl⟩)
  go_ret
  exact⟨rfl,rfl⟩
theorem Et (v:VV) (w:World):Calls prog 43 #[v.agg] w fun e w'=>e= .returned (.bool (v.k !=0))/\Below w.heap.size w w':=by
 obtain⟨k,b,x,s,i⟩:=v
 unfold VV.agg
 dsimp only
 go_enter func43,ntmps43
 go_wp2
 go_ret
 exact⟨rfl,(Below.refl w.heap.size w).alloc (Nat.le_refl _) _⟩

theorem o_ig:(FloatKind.f64.format.order 9218868437227405312 0==some .gt)=true:=by decide+kernel
theorem o_ng:(FloatKind.f64.format.order 18442240474082181120 0==some .gt)=false:=by decide+kernel
section
attribute [local go_sem] Rc Xw
theorem Mp (v:VV) (hx:v.x<2^64) (w:World):Calls prog 69 #[v.agg] w fun e w'=>e= .returned (.bool (!thV v))/\Below w.heap.size w w':=by
 have hz:=Lw v.x hx
 have h1:=o_00
 have h2:=o_m0
 have h3:=o_ig
 have h4:=o_ng
 obtain⟨k,b,x,s,i⟩:=v
 unfold VV.agg thV
 dsimp only at *
 by_cases hk:k=0
 ·subst hk
  cases b
  ·generalize hq:(FloatKind.f64.format.order x 0==some .eq)=q at *
   cases q
   ·have hx0:(x==0)=false:=by
     simp at hz
     simp[hz]
    rw[hx0]
    have hq2: ¬FloatKind.f64.format.order x 0=some .eq:=by simpa using hq
    clear hz hq hx hx0 h1 h2 h3 h4
    go_enter func69,ntmps69
    go_wp2
    go_ret
    exact⟨rfl,(Below.refl w.heap.size w).alloc (Nat.le_refl _) _⟩
   ·have hx0:x=0∨x=9223372036854775808:=by
     simp at hz
     omega
    clear hz
    rcases hx0 with rfl|rfl
    ·by_cases hs:s.toList.isEmpty=true
     ·have hs2:=Ni hs
      subst hs2
      by_cases hi:i=0
      ·subst hi
       rw[hs]
       clear hx hs
       go_enter func69,ntmps69
       go_wp2
       go_ret
       exact⟨rfl,(Below.refl w.heap.size w).alloc (Nat.le_refl _) _⟩
      ·have hi2:(i==0)=false:=by simp[hi]
       rw[hi2,Bool.and_false]
       clear hx hs
       go_enter func69,ntmps69
       go_wp2
       go_ret
       exact⟨rfl,(Below.refl w.heap.size w).alloc (Nat.le_refl _) _⟩
     ·have hs1:s.toList.isEmpty=false:=by simpa using hs
      have hs2: ¬s.toList= []:=by simpa using hs1
      rw[hs1,Bool.and_false,Bool.false_and]
      clear hx hs hs1
      go_enter func69,ntmps69
      go_wp2
      go_ret
      exact⟨rfl,(Below.refl w.heap.size w).alloc (Nat.le_refl _) _⟩
    ·clear hx
     go_enter func69,ntmps69
     go_wp2
     go_ret
     exact⟨rfl,(Below.refl w.heap.size w).alloc (Nat.le_refl _) _⟩
  ·clear hz hx h1 h2 h3 h4
   go_enter func69,ntmps69
   go_wp2
   go_ret
   exact⟨rfl,(Below.refl w.heap.size w).alloc (Nat.le_refl _) _⟩
 ·clear hz hx h1 h2 h3 h4
  have hk2:(k==0)=false:=by simp[hk]
  rw[hk2]
  go_enter func69,ntmps69
  go_wp2
  go_ret
  exact⟨rfl,(Below.refl w.heap.size w).alloc (Nat.le_refl _) _⟩
end
end
section
open Go Go.Proofs Go.Maps Tryz
theorem Me:laidOutB prog=true:=by kernel_rfl
theorem row33:(42:TypeId)<prog.types.size:=of_decide_eq_true (by kernel_rfl)
theorem key33:prog.keyTypeAt 2 42=true:=by kernel_rfl
theorem Rx:Keyed prog 42:=Keyed.of_law (deep_law_laid Me (m:=2) (by omega) row33 key33 (by rw[underlying42]))
theorem keyT33:prog.keyType 42=true:=by kernel_rfl
theorem Yv:decide ((1:Nat)<=prog.types.size)=true:=by kernel_rfl
theorem ZaL: ∃n:Nat,prog.types.size+1=n+2:=by
 have h:(1:Nat)<=prog.types.size:=of_decide_eq_true Yv
 generalize prog.types.size=m at h
 exact⟨m - 1,by omega⟩
def Zcg (s:ByteArray) (n:Int):Lit:= .string (keyBytes [.string s.data.toList, .int .i64 n])
theorem Re (s:ByteArray) (n:Int) (hs:s.size<=maxLen) (hn:(Lit.int .i64 n).wf=true):keyOf prog 42 (.agg #[.string s, .int .i64 n])=some (Zcg s n):=by
 obtain⟨N,hN⟩:=ZaL
 unfold keyOf
 rw[underlying42]
 simp only[]
 rw[hN]
 have c33:prog.cellsOf 42=2:=by kernel_rfl
 have hf:Value.formed prog 42 (.agg #[.string s, .int .i64 n])=true:=by
  simp[Value.formed,underlying42,underlying3,underlying9,c33]
 have c9:prog.cellsOf 9=1:=by kernel_rfl
 have c3:prog.cellsOf 3=1:=by kernel_rfl
 rw[hf,keyT33]
 simp[Program.keyLits,underlying42,underlying3,underlying9,c9,c3,c33,hs,hn,Value.cells,Zcg]
theorem klit_inj {s s':ByteArray} {n n':Int} (hs:s.size<=maxLen) (hn:(Lit.int .i64 n).wf=true) (hs':s'.size<=maxLen) (hn':(Lit.int .i64 n').wf=true) (h:Zcg s n=Zcg s' n'):s=s'/\n=n':=by
 have:=Rx.inj (Re s n hs hn) (h▸Re s' n' hs' hn')
 simpa using this
theorem klit_key {s:ByteArray} {n:Int} (hs:s.size<=maxLen) (hn:(Lit.int .i64 n).wf=true):WideAt.IsKeyLit (Zcg s n):=Rx.key (Re s n hs hn)
end
section
open Go Go.Proofs Go.RowKit
def dgF (most:Nat):List Nat->Nat->Option Nat
 | [],n=>some n
 |c::r,n=>if c<48∨57<c then none else if most<n * 10+(c - 48) then none else dgF most r (n * 10+(c - 48))
def dgV (most:Nat) (l:List Nat):Option Nat:=
 match l with
 | []=>none
 |c::r=>if c=48/\r≠ [] then none else dgF most (c::r) 0
theorem dgF_le (most:Nat): ∀(l:List Nat) (n m:Nat),n<=most->dgF most l n=some m->m<=most
 | [],n,m,h,e=>by simp[dgF] at e;omega
 |c::r,n,m,h,e=>by
  unfold dgF at e
  split at e
  ·cases e
  ·split at e
   ·cases e
   ·exact dgF_le most r _ m (by omega) e
theorem dgV_le (most:Nat) (l:List Nat) (m:Nat) (e:dgV most l=some m):m<=most:=by
 unfold dgV at e
 split at e
 ·cases e
 ·split at e
  ·cases e
  ·exact dgF_le most _ 0 m (Nat.zero_le _) e
theorem Yh (s:ByteArray) (i:Nat) (h:i<s.size):s.get! i=s[i]'h:=by
 cases s with
 |mk d=>exact getElem!_pos d i h
theorem Zau (most:Nat) (s:ByteArray) (i n:Nat) (h:i<s.size):
  dgF most ((Dg s).drop i) n=if (s.get! i).toNat<48∨57<(s.get! i).toNat then none else if most<n * 10+((s.get! i).toNat - 48) then none else dgF most ((Dg s).drop (i+1)) (n * 10+((s.get! i).toNat - 48)):=by
 have hl:i<(Dg s).length:=by rw[Dz];exact h
 have hg:(s.get! i).toNat=(Dg s)[i]:=by
  rw[Ug,List.getD_eq_getElem?_getD,List.getElem?_eq_getElem hl];rfl
 rw[hg,List.drop_eq_getElem_cons hl,dgF]
theorem ZbJ (most:Nat) (s:ByteArray) (i n:Nat) (h:s.size<=i):dgF most ((Dg s).drop i) n=some n:=by
 rw[List.drop_eq_nil_of_le (by rw[Dz];exact h),dgF]
theorem dgV_nil (most:Nat) (s:ByteArray) (h:s.size=0):dgV most (Dg s)=none:=by
 have:Dg s= []:=by rw[←List.length_eq_zero_iff,Dz];exact h
 rw[this,dgV]
theorem dgV_cons (most:Nat) (s:ByteArray) (h:0<s.size):dgV most (Dg s)=if (s.get! 0).toNat=48/\1<s.size then none else dgF most ((Dg s).drop 0) 0:=by
 have hg:=Ug s 0
 have hl:=Dz s
 cases hn:Dg s with
 |nil=>rw[hn] at hl;simp at hl;omega
 |cons c r=>
  rw[hn] at hg hl
  simp only[List.getD_cons_zero,List.length_cons] at hg hl
  rw[hg,dgV,List.drop_zero]
  have:(r≠ [])↔1<s.size:=by
   rw[←hl,←List.length_pos_iff];omega
  simp only[this]
theorem Zbo (s:ByteArray) (hp:0<s.size) (h:((s[0]'hp).toNat:Int)=48):(s.toList== [48])=decide (s.size=1):=by
 have hl:s.toList.length=s.size:=by rw[Lib.toList_data];rfl
 have h0:s.toList[0]? =some 48:=by
  rw[Lib.toList_data,Array.getElem?_toList,Array.getElem?_eq_getElem (h:=hp)]
  congr 1
  exact UInt8.toNat_inj.1 (by show (s[0]'hp).toNat=48;omega)
 rw[←hl]
 cases e:s.toList with
 |nil=>rw[e] at h0;cases h0
 |cons c r=>
  rw[e] at h0
  simp only[List.getElem?_cons_zero,Option.some.injEq] at h0
  subst h0
  cases r<;>simp
theorem upTo49 (s:ByteArray) (most:Nat) (hs:s.size<4611686018427387904) (hm:most<=9007199254740991) (w:World):Calls Tryz.prog 183 #[.int .i64 (most:Nat), .string s] w fun e w'=>e= .returned (.tuple #[.int .i64 ((dgV most (Dg s)).getD 0:Nat), .bool (dgV most (Dg s)).isSome])/\w'=w:=by
 have hE:(s.toList.isEmpty=true)↔s.size=0:=by
  rw[ByteArray.size,←Array.length_toList,List.length_eq_zero_iff]
  simp[Lib.toList_data]
 go_enter Tryz.func183,Tryz.ntmps183
 by_cases h0:s.size=0
 ·have hv:=dgV_nil most s h0
  have he:=hE.2 h0
  have hz:(s.size:Int)=0:=by omega
  clear hE
  go_wp2
  go_ret2
  exact⟨by rw[hv];rfl,rfl⟩
 ·have hp:0<s.size:=by omega
  have hv:=dgV_cons most s hp
  have he:s.toList.isEmpty=false:=by
   cases h:s.toList.isEmpty
   ·rfl
   ·exact absurd (hE.1 h) h0
  clear hE
  have z0:(0:Int)<s.size:=by omega
  by_cases hz:(s.get! 0).toNat=48/\1<s.size
  ·rw[if_pos hz] at hv
   obtain⟨hz1,hz2⟩:=hz
   have z1:(1:Int)<s.size:=by omega
   have z2:((s[0]'hp).toNat:Int)=48:=by rw[←Yh s 0 hp];omega
   clear hz1
   have q1:(s.toList== [48])=false:=by rw[Zbo s hp z2];exact decide_eq_false (by omega)
   go_wp2
   go_ret2
   exact⟨by rw[hv];rfl,rfl⟩
  ·rw[if_neg hz] at hv
   have HV:=Ac hv
   clear hv
   have hc3:(¬((s[0]'hp).toNat:Int)=48)∨(¬1<s.size/\((s[0]'hp).toNat:Int)=48):=by
    rw[←Yh s 0 hp];omega
   clear hz
   rcases hc3 with z2|⟨h1,z2⟩
   ·have h1:=trivial
    have q1:=trivial
    have z1:=trivial
    go_wp2_with fail
    go_loopg [6,21] (s.size+1) (fun g s6 s21 wr=> ∃(n i:Nat),s6= .int .i64 n/\s21= .int .i64 i/\i<=s.size/\s.size - i<g/\n<=most/\wr=w/\Hid (dgV most (Dg s)=dgF most ((Dg s).drop i) n))
    case atStart=>exact⟨0,0,rfl,rfl,Nat.zero_le _,by omega,Nat.zero_le _,rfl,HV⟩
    case round=>
     obtain⟨n,i,rfl,rfl,hi,hg,hn,rfl,hR⟩:=hrel
     clear z0 z1 z2 h1 q1
     by_cases hil:i<s.size
     ·have hst:=Zau most s i n hil
      rw[Yh s i hil] at hst
      have y0:(i:Int)<s.size:=by omega
      have hcl:=(s[i]'hil).toNat_lt
      by_cases hc1:(s[i]'hil).toNat<48
      ·rw[if_pos (Or.inl hc1)] at hst
       have HS:=Ac hst
       have y1:((s[i]'hil).toNat:Int)<48:=by omega
       clear hst hc1
       go_wp2
       go_ret2
       exact⟨by rw[Aa hR,Aa HS];rfl,rfl⟩
      ·have y1: ¬((s[i]'hil).toNat:Int)<48:=by omega
       by_cases hc2:57<(s[i]'hil).toNat
       ·rw[if_pos (Or.inr hc2)] at hst
        have HS:=Ac hst
        have y2:(57:Int)<((s[i]'hil).toNat:Int):=by omega
        clear hst hc1 hc2
        go_wp2
        go_ret2
        exact⟨by rw[Aa hR,Aa HS];rfl,rfl⟩
       ·rw[if_neg (by omega)] at hst
        have y2: ¬(57:Int)<((s[i]'hil).toNat:Int):=by omega
        obtain⟨m,hm1⟩: ∃m,m=n * 10+((s[i]'hil).toNat - 48):=⟨_,rfl⟩
        rw[←hm1] at hst
        have y3:IntKind.u8.wrap (((s[i]'hil).toNat:Int) - 48)=(((s[i]'hil).toNat - 48:Nat):Int):=by
         simp[IntKind.wrap,IntKind.bits,IntKind.signed];omega
        have y4:IntKind.i64.wrap (((s[i]'hil).toNat - 48:Nat):Int)=(((s[i]'hil).toNat - 48:Nat):Int):=by
         rw[IntKind.wrap_i64];omega
        have y5:IntKind.i64.wrap (10 * (n:Int))=((10 * n:Nat):Int):=by
         rw[IntKind.wrap_i64];omega
        have y6:IntKind.i64.wrap (((10 * n:Nat):Int)+(((s[i]'hil).toNat - 48:Nat):Int))=(m:Int):=by
         rw[IntKind.wrap_i64];omega
        have y7:IntKind.i64.wrap ((i:Int)+1)=((i+1:Nat):Int):=by rw[IntKind.wrap_i64];omega
        by_cases hmm:most<m
        ·rw[if_pos hmm] at hst
         have HS:=Ac hst
         have y8:(most:Int)<m:=by omega
         clear hst hc1 hc2
         go_wp2
         go_ret2
         exact⟨by rw[Aa hR,Aa HS];rfl,rfl⟩
        ·rw[if_neg hmm] at hst
         have HS:=Ac hst
         have y8: ¬(most:Int)<m:=by omega
         clear hst hc1 hc2
         go_wp2
         go_roundg (s.size - i)
         case measure=>omega
         case rel=>exact⟨m,i+1,by congr 1;omega,by go_num,by omega,by omega,by omega,rfl,Ac (by rw[Aa hR,Aa HS])⟩
     ·have hst:=ZbJ most s i n (by omega)
      have HS:=Ac hst
      have y0: ¬(i:Int)<s.size:=by omega
      clear hst
      go_wp2
      go_ret2
      exact⟨by rw[Aa hR,Aa HS];rfl,rfl⟩
   ·have q1:(s.toList== [48])=true:=by rw[Zbo s hp z2];exact decide_eq_true (by omega)
    have z1:=trivial
    go_wp2_with fail
    go_loopg [6,21] (s.size+1) (fun g s6 s21 wr=> ∃(n i:Nat),s6= .int .i64 n/\s21= .int .i64 i/\i<=s.size/\s.size - i<g/\n<=most/\wr=w/\Hid (dgV most (Dg s)=dgF most ((Dg s).drop i) n))
    case atStart=>exact⟨0,0,rfl,rfl,Nat.zero_le _,by omega,Nat.zero_le _,rfl,HV⟩
    case round=>
     obtain⟨n,i,rfl,rfl,hi,hg,hn,rfl,hR⟩:=hrel
     clear z0 z1 z2 h1 q1
     by_cases hil:i<s.size
     ·have hst:=Zau most s i n hil
      rw[Yh s i hil] at hst
      have y0:(i:Int)<s.size:=by omega
      have hcl:=(s[i]'hil).toNat_lt
      by_cases hc1:(s[i]'hil).toNat<48
      ·rw[if_pos (Or.inl hc1)] at hst
       have HS:=Ac hst
       have y1:((s[i]'hil).toNat:Int)<48:=by omega
       clear hst hc1
       go_wp2
       go_ret2
       exact⟨by rw[Aa hR,Aa HS];rfl,rfl⟩
      ·have y1: ¬((s[i]'hil).toNat:Int)<48:=by omega
       by_cases hc2:57<(s[i]'hil).toNat
       ·rw[if_pos (Or.inr hc2)] at hst
        have HS:=Ac hst
        have y2:(57:Int)<((s[i]'hil).toNat:Int):=by omega
        clear hst hc1 hc2
        go_wp2
        go_ret2
        exact⟨by rw[Aa hR,Aa HS];rfl,rfl⟩
       ·rw[if_neg (by omega)] at hst
        have y2: ¬(57:Int)<((s[i]'hil).toNat:Int):=by omega
        obtain⟨m,hm1⟩: ∃m,m=n * 10+((s[i]'hil).toNat - 48):=⟨_,rfl⟩
        rw[←hm1] at hst
        have y3:IntKind.u8.wrap (((s[i]'hil).toNat:Int) - 48)=(((s[i]'hil).toNat - 48:Nat):Int):=by
         simp[IntKind.wrap,IntKind.bits,IntKind.signed];omega
        have y4:IntKind.i64.wrap (((s[i]'hil).toNat - 48:Nat):Int)=(((s[i]'hil).toNat - 48:Nat):Int):=by
         rw[IntKind.wrap_i64];omega
        have y5:IntKind.i64.wrap (10 * (n:Int))=((10 * n:Nat):Int):=by
         rw[IntKind.wrap_i64];omega
        have y6:IntKind.i64.wrap (((10 * n:Nat):Int)+(((s[i]'hil).toNat - 48:Nat):Int))=(m:Int):=by
         rw[IntKind.wrap_i64];omega
        have y7:IntKind.i64.wrap ((i:Int)+1)=((i+1:Nat):Int):=by rw[IntKind.wrap_i64];omega
        by_cases hmm:most<m
        ·rw[if_pos hmm] at hst
         have HS:=Ac hst
         have y8:(most:Int)<m:=by omega
         clear hst hc1 hc2
         go_wp2
         go_ret2
         exact⟨by rw[Aa hR,Aa HS];rfl,rfl⟩
        ·rw[if_neg hmm] at hst
         have HS:=Ac hst
         have y8: ¬(most:Int)<m:=by omega
         clear hst hc1 hc2
         go_wp2
         go_roundg (s.size - i)
         case measure=>omega
         case rel=>exact⟨m,i+1,by congr 1;omega,by go_num,by omega,by omega,by omega,rfl,Ac (by rw[Aa hR,Aa HS])⟩
     ·have hst:=ZbJ most s i n (by omega)
      have HS:=Ac hst
      have y0: ¬(i:Int)<s.size:=by omega
      clear hst
      go_wp2
      go_ret2
      exact⟨by rw[Aa hR,Aa HS];rfl,rfl⟩
def Nz (l:List Nat):Option Nat:=dgV 4294967294 l
theorem ixOf_le (l:List Nat) (m:Nat) (h:Nz l=some m):m<=4294967294:=dgV_le _ _ _ h
theorem Zbv (s:ByteArray) (hs:s.size<4611686018427387904) (w:World):Calls Tryz.prog 182 #[.string s] w fun e w'=>e= .returned (.tuple #[.int .u32 ((Nz (Dg s)).getD 0:Nat), .bool (Nz (Dg s)).isSome])/\w'=w:=by
 have HC:=Ac (upTo49 s 4294967294 hs (by omega) w)
 have z1:IntKind.u32.wrap ((Nz (Dg s)).getD 0:Nat)=((Nz (Dg s)).getD 0:Nat):=by
  have:(Nz (Dg s)).getD 0<=4294967294:=by
   cases h:Nz (Dg s) with
   |none=>simp
   |some m=>exact ixOf_le _ _ h
  simp[IntKind.wrap,IntKind.bits,IntKind.signed];omega
 change Hid (Calls Tryz.prog 183 #[.int .i64 4294967294, .string s] w fun e w'=>e= .returned (.tuple #[.int .i64 ((Nz (Dg s)).getD 0:Nat), .bool (Nz (Dg s)).isSome])/\w'=w) at HC
 generalize (Nz (Dg s)).getD 0=m at *
 generalize (Nz (Dg s)).isSome=b at *
 go_enter Tryz.func182,Tryz.ntmps182
 go_wp2_with fail
 refine(Aa HC).mono ?_
 rintro e w' ⟨rfl,rfl⟩
 go_wp2
 go_ret2
 exact⟨rfl,rfl⟩
theorem Mi (w:World) (o:Obj):Below w.heap.size w (w.alloc o):=(Below.refl _ _).alloc (Nat.le_refl _) _
def keyV (s:ByteArray) (n:Int):Value:= .agg #[.string s, .int .i64 n]
end
section
open Go Go.Proofs Go.RowKit Tryz
theorem Qv (P:Program) (w:World) (a:Addr) (m:Mode) (k:FloatKind) (x:Nat):(store a (.float k x) m).run P w=stored P w a (.float k x) m:=run_store P w a _ m rfl
attribute [local go_sem] Gx Qv
def Ol (s:ByteArray) (n:Int):VV:=if n=0 then ⟨5,false,0,s,0⟩ else ⟨6,false,0,s,n⟩
theorem Zbt (w:World) (o1 o2:Obj):Below w.heap.size w ((w.alloc o1).alloc o2):=((Below.refl _ _).alloc (Nat.le_refl _) _).alloc (by simp) _
theorem Zcy (s:ByteArray) (n:Int) (w:World):Calls prog 64 #[keyV s n] w fun e w'=>e= .returned (Ol s n).agg/\Below w.heap.size w w':=by
 unfold keyV
 by_cases hn:n=0
 ·subst hn
  have e1:Ol s 0=⟨5,false,0,s,0⟩:=by unfold Ol;rw[if_pos rfl]
  rw[e1]
  unfold VV.agg
  go_enter func64,ntmps64
  go_wp2
  simp[bodyPost,results,Tryz.results64,go_sem]
  exact Zbt ..
 ·have e1:Ol s n=⟨6,false,0,s,n⟩:=by unfold Ol;rw[if_neg hn]
  rw[e1]
  unfold VV.agg
  go_enter func64,ntmps64
  go_wp2
  simp[bodyPost,results,Tryz.results64,go_sem]
  exact Zbt ..
theorem vcheck20 (v:VV) (w:World) (hT:Lib.Utf8Tabs 4 5 w):Calls prog 50 #[v.agg] w fun e w'=>e= .returned (.int .i64 (if v.good then 0 else 5))/\Below w.heap.size w w':=by
 have HI:=Ac (fun w (hT:Lib.Utf8Tabs 4 5 w)=>Kk v.k v.b v.x v.s v.i w hT)
 have HT:=Ac hT
 unfold VV.agg VV.good
 generalize Ef v.k v.b v.x v.s v.i=g at *
 clear hT
 go_enter func50,ntmps50
 go_wp2_with fail
 refine(Aa HI _ (Bf (Aa HT) (Mi _ _))).mono ?_
 rintro e w1 ⟨rfl,hb⟩
 have HB:=Ac (((Mi w _).trans (hb.mono (by simp))))
 clear hb
 cases g
 ·go_wp2
  go_ret
  exact⟨rfl,Aa HB⟩
 ·go_wp2
  go_ret
  exact⟨rfl,Aa HB⟩
theorem Yk (s:ByteArray) (n:Int) (w:World) (hT:Lib.Utf8Tabs 4 5 w):Calls prog 37 #[keyV s n] w fun e w'=>e= .returned (.int .i64 (if (Ol s n).good then 0 else 5))/\Below w.heap.size w w':=by
 have HA:=Ac (fun w=>Zcy s n w)
 have HI:=Ac (fun w (hT:Lib.Utf8Tabs 4 5 w)=>vcheck20 (Ol s n) w hT)
 have HT:=Ac hT
 unfold keyV at *
 generalize (Ol s n).agg=v at *
 generalize (if (Ol s n).good then (0:Int) else 5)=g at *
 clear hT
 go_enter func37,ntmps37
 go_wp2_with fail
 refine(Aa HA _).mono ?_
 rintro e w1 ⟨rfl,hb⟩
 have HB:=Ac (((Mi w _).trans (hb.mono (by simp))))
 clear hb
 go_wp2_with fail
 refine(Aa HI _ (Bf (Aa HT) (Aa HB))).mono ?_
 rintro e w2 ⟨rfl,hb2⟩
 have HB2:=Ac ((Aa HB).trans (hb2.mono (Aa HB).size))
 clear hb2
 go_wp2
 go_ret
 exact⟨rfl,Aa HB2⟩
end
section
open Go Go.Proofs Go.RowKit
theorem Zcj {s:ByteArray} {n:Int} (h:(Ol s n).good=true):s.size<=1048576:=by
 unfold Ol at h
 by_cases hn:n=0
 ·rw[if_pos hn] at h
  rcases hf:Nf s with _|_
  ·simp[VV.good,Ef,inG,hf] at h
  ·unfold Nf at hf
   simp at hf
   exact hf.1
 ·rw[if_neg hn] at h
  have:s.toList.isEmpty=true:=by
   cases he:s.toList.isEmpty
   ·simp[VV.good,Ef,inG,Lx,he] at h
   ·rfl
  rw[Ni this]
  decide
structure KK where
 s:ByteArray
 n:Int
def KK.agg (k:KK):Value:= .agg #[.string k.s, .int .i64 k.n]
def KK.cs (k:KK):List Value:= [.string k.s, .int .i64 k.n]
def KK.obj (k:KK):Obj:=Obj.cells #[.string k.s, .int .i64 k.n] 42
theorem KK.ext' {a b:KK} (h1:a.s=b.s) (h2:a.n=b.n):a=b:=by cases a;cases b;cases h1;cases h2;rfl
def Mk:KK:=⟨ByteArray.empty,0⟩
def KLies (W:World) (B:Nat) (k:KK):Prop:=(∀j,W.frozen? ⟨B,j,none⟩=false)/\W.cell? ⟨B,0,none⟩=some (.string k.s)/\W.cell? ⟨B,1,none⟩=some (.int .i64 k.n)
theorem KLies.new (w:World) (B:Nat) (hB:B=w.heap.size) (k:KK):KLies (w.alloc k.obj) B k:=by
 subst hB
 unfold KLies KK.obj
 simp[go_sem]
theorem KLies.block {W W1:World} {B:Nat} {k:KK} (h:KLies W B k) (he:W1.heap[B]? =W.heap[B]?):KLies W1 B k:=by
 have hc: ∀j,W1.cell? ⟨B,j,none⟩=W.cell? ⟨B,j,none⟩:=fun j=>World.cell?_of_block he
 have hf: ∀j,W1.frozen? ⟨B,j,none⟩=W.frozen? ⟨B,j,none⟩:=fun j=>World.frozen?_of_block he
 unfold KLies at *
 simp only[hc,hf]
 exact h
theorem KLies.range {W:World} {B:Nat} {k:KK} (h:KLies W B k):W.rangeAt B 0 k.cs:=by
 intro j v hv
 obtain⟨-,h0,h1⟩:=h
 match j,hv with
 |0,hv=>exact(Option.some.inj hv)▸h0
 |1,hv=>exact(Option.some.inj hv)▸h1
 |_+2,hv=>exact absurd hv (by simp[KK.cs])
theorem KLies.there {W:World} {B:Nat} {k:KK} (h:KLies W B k):W.there B 0 2:=by
 obtain⟨f,h0,h1⟩:=h
 intro j hj
 match j,hj with
 |0,_=>exact⟨h0▸rfl,f _⟩
 |1,_=>exact⟨h1▸rfl,f _⟩
theorem Gb (b:Nat): ∀(vs:List Value) (o:Nat) (X:World) (g:Nat),g≠b->(X.setCells b o vs).heap[g]? =X.heap[g]?
 | [],_,_,_,_=>rfl
 |v::vs,o,X,g,h=>by
  rw[World.setCells,Gb b vs _ _ g h]
  simp[World.setCell,Array.getElem?_modify,Ne.symm h]
theorem Gr {b:Nat}: ∀(vs:List Value) (o:Nat) (W:World),(W.setCells b o vs).heap.size=W.heap.size
 | [],_,_=>rfl
 |v::vs,o,W=>by
  rw[World.setCells,Gr vs]
  simp[World.setCell]
theorem Nm {w:World} {b:Nat} (hb:w.heap.size<=b): ∀(vs:List Value) (o:Nat) (W:World),Below w.heap.size w W->Below w.heap.size w (W.setCells b o vs)
 | [],_,_,h=>h
 |v::vs,o,W,h=>Nm hb vs _ _ (h.setCell (by exact hb) _)
structure Kq (w X:World) (l:List (Nat×KK)):Prop where
 below:Below w.heap.size w X
 all: ∀q∈l,w.heap.size<=q.1/\q.1<X.heap.size/\KLies X q.1 q.2
theorem Kq.nil (w:World):Kq w w []:=⟨Below.refl _ _,fun q hq=>by cases hq⟩
theorem Kq.on {w X X1:World} {l:List (Nat×KK)} (h:Kq w X l) (hb:Below X.heap.size X X1):Kq w X1 l:=
 ⟨h.below.trans (hb.mono h.below.size),fun q hq=>⟨(h.all q hq).1,Nat.lt_of_lt_of_le (h.all q hq).2.1 hb.size,(h.all q hq).2.2.block (hb.block _ (h.all q hq).2.1)⟩⟩
theorem Kq.get {w X:World} {l:List (Nat×KK)} (h:Kq w X l) (i:Nat) {b:Nat} {k:KK} (hi:l[i]? =some (b,k)):KLies X b k:=(h.all _ (List.mem_of_getElem? hi)).2.2
theorem Kq.new {w X:World} {l:List (Nat×KK)} (h:Kq w X l) (k:KK):Kq w (X.alloc k.obj) (l++ [(X.heap.size,k)]):=by
 have hb:Below X.heap.size X (X.alloc k.obj):=(Below.refl _ _).alloc (Nat.le_refl _) _
 refine⟨(h.on hb).below,fun q hq=> ?_⟩
 rcases List.mem_append.1 hq with hq|hq
 ·exact(h.on hb).all q hq
 ·obtain rfl:q=(X.heap.size,k):=by simpa using hq
  exact⟨h.below.size,by simp,KLies.new X _ rfl k⟩
theorem KLies.setK {W:World} {B:Nat} {k u:KK} (h:KLies W B k):KLies (W.setCells B 0 u.cs) B u:=by
 obtain⟨f,h0,h1⟩:=h
 refine⟨fun j=> ?_, ?_, ?_⟩
 ·simp[KK.cs,World.setCells,go_sem,f]
 ·simp[KK.cs,World.setCells,go_sem,h0,h1]
 ·simp[KK.cs,World.setCells,go_sem,h0,h1]
theorem info23:(Tryz.prog.info? 42).map (·.size)=some 2:=by kernel_rfl
theorem isrow23: ∃d,Tryz.prog.underlying 42=some d/\d.isRow=true:=⟨_,Tryz.underlying42,rfl⟩
section
variable {ops : Array Oper} {rest : List Oper} {o : Oper} {a : Act} {w w0 : World} {Q : Exit → Act → World → Prop} {l : List (Nat × KK)} {x y : Operand} {b : Nat} {d u : KK}
theorem Zaa (hw:Region.wanted o (yielded ops a.tmps)=true) (ho:o.op= .alloc 42) (hL:Kq w0 w l)
  (h: ∀X,Kq w0 X (l++ [(w.heap.size,Mk)])->Below w.heap.size w X->wpList Tryz.prog ops Q rest (a.put o.dst (.pointer (some ⟨w.heap.size,0,none⟩))) X):wpList Tryz.prog ops Q (o::rest) a w:=by
 refine BigFrame.wpList_want hw fun K hK=> ?_
 have hP:=hK _ _ (h _ (hL.new Mk) ((Below.refl _ _).alloc (Nat.le_refl _) _))
 unfold Oper.wp execOp
 simp only[ho]
 simp[go_sem,Tryz.zeroValue42]
 exact hP
theorem Zz {m:List (Nat×KK)} (hw:Region.wanted o (yielded ops a.tmps)=true) (ho:o.op= .store 42 x y) (hL:Kq w0 w m) (hx:a.eval x= .pointer (some ⟨b,0,none⟩)) (hy:a.eval y=u.agg) (hm:m=l++ [(b,d)]) (hne: ∀q∈l,q.1≠b)
  (h: ∀X,Kq w0 X (l++ [(b,u)])->(∀g,g≠b->X.heap[g]? =w.heap[g]?)->X.heap.size=w.heap.size->wpList Tryz.prog ops Q rest (a.put o.dst undef) X):wpList Tryz.prog ops Q (o::rest) a w:=by
 subst hm
 refine BigFrame.wpList_want hw fun K hK=> ?_
 have hb:=hL.all (b,d) (by simp)
 refine wp_store_mid 42 x y ho _ 0 u.cs.toArray hx hy (KLies.there hb.2.2) info23 (by simp[KK.cs,Value.oneCell']) (hK _ _ (h _ ?_ (fun g hg=>Gb _ _ _ _ _ hg) (Gr _ _ _)))
 refine⟨Nm hb.1 _ _ _ hL.below,fun q hq=> ?_⟩
 rw[Gr]
 rcases List.mem_append.1 hq with hq|hq
 ·have hq0:=hL.all q (List.mem_append_left _ hq)
  exact⟨hq0.1,hq0.2.1,hq0.2.2.block (Gb _ _ _ _ _ (hne q hq))⟩
 ·obtain rfl:q=(b,u):=by simpa using hq
  exact⟨hb.1,hb.2.1,KLies.setK hb.2.2⟩
end
section
variable {ops : Array Oper} {rest : List Oper} {o : Oper} {a : Act} {w : World} {Q : Exit → Act → World → Prop} {s x : Operand} {base : Nat} {l m : List KK} {v u : Value}
end
section
variable {md : Region.Mode} {ops : Array Oper} {Q : Exit → Act → World → Prop} {S : World → Prop} {w : World} {fuel : Nat} {listed : Array Bool} {a : Act} {o : Oper}
end
section
variable {ops : Array Oper} {rest : List Oper} {o : Oper} {a : Act} {w : World} {Q : Exit → Act → World → Prop} {x ix : Operand} {b off n cap j p : Nat} {d : KK}
end
end
section
open Go Go.Proofs Go.Maps Go.RowKit Tryz
def ptrR:Value->Option (DataW Unit×List MemPlace)
 | .pointer none=>some (.nil, [])
 | .pointer (some ⟨b,0,none⟩)=>some (.lit (.int .i64 (b:Nat)), [])
 |_=>none
def pv:Option Nat->Value
 |none=> .pointer none
 |some b=> .pointer (some ⟨b,0,none⟩)
def pd:Option Nat->DataW Unit
 |none=> .nil
 |some b=> .lit (.int .i64 (b:Nat))
theorem Zbl (o:Option Nat):ptrR (pv o)=some (pd o, []):=by cases o<;>rfl
theorem pd_inj {o o':Option Nat} (h:pd o=pd o'):o=o':=by
 cases o<;>cases o'<;>simp[pd] at h ⊢
 omega
theorem ptrR_inv {v:Value} {o:Option Nat} {ps:List MemPlace} (h:ptrR v=some (pd o,ps)):v=pv o:=by
 unfold ptrR at h
 split at h
 ·have e:=congrArg Prod.fst (Option.some.inj h)
  rw[←pd_inj (o:=none) (o':=o) e];rfl
 ·rename_i b
  have e:=congrArg Prod.fst (Option.some.inj h)
  rw[←pd_inj (o:=some b) (o':=o) e];rfl
 ·cases h
def OkK (k:KK):Prop:=k.s.size<=maxLen/\(Lit.int .i64 k.n).wf=true
def kl (k:KK):Lit:=Zcg k.s k.n
theorem ZaV {k:KK} (h:OkK k):keyOf prog 42 k.agg=some (kl k):=Re k.s k.n h.1 h.2
theorem kl_inj {k k':KK} (h:OkK k) (h':OkK k') (e:kl k=kl k'):k=k':=by
 obtain⟨h1,h2⟩:=klit_inj h.1 h.2 h'.1 h'.2 e
 exact KK.ext' h1 h2
theorem kl_key {k:KK} (h:OkK k):WideAt.IsKeyLit (kl k):=klit_key h.1 h.2
def MapIs (w:World) (b n sz:Nat) (F:KK->Option Nat):Prop:=
 ∃D:DataW Unit,w.ownsMap prog 42 ptrR b n D/\Maps.size D=sz/\ ∀k,OkK k->D.atKey (kl k) .nil=pd (F k)/\Maps.has D (kl k)=(F k).isSome
theorem MapIs.made (w:World):MapIs (w.alloc (.map #[] 0)) w.heap.size 0 0 (fun _=>none):=
 ⟨_,World.ownsMap_made w _ _ _,rfl,fun k _=>⟨rfl,rfl⟩⟩
theorem MapIs.lt {w:World} {b n sz:Nat} {F:KK->Option Nat} (h:MapIs w b n sz F):b<w.heap.size:=by
 obtain⟨D,h, -⟩:=h
 exact h.lt
theorem MapIs.block {w w':World} {b n sz:Nat} {F:KK->Option Nat} (h:MapIs w b n sz F) (he:w'.heap[b]? =w.heap[b]?):MapIs w' b n sz F:=by
 obtain⟨D,⟨es,clock,hb,Ft,hs,hD⟩,h2,h3⟩:=h
 exact⟨D,⟨es,clock,he.trans hb,Ft,hs,hD⟩,h2,h3⟩
theorem MapIs.mono {w:World} {b n n' sz:Nat} {F:KK->Option Nat} (h:MapIs w b n sz F) (hn:n<=n'):MapIs w b n' sz F:=by
 obtain⟨D,h,h2⟩:=h
 exact⟨D,h.mono hn,h2⟩
theorem zero74 (w:World):(zeroValue 176).run prog w= .ok (.pointer none) w:=by kernel_rfl
theorem MapIs.look {w:World} {b n sz:Nat} {F:KK->Option Nat} (h:MapIs w b n sz F) {k:KK} (hk:OkK k):
  (Instr.lookup 132 (.map (some b)) k.agg true).run prog w= .ok (.tuple #[pv (F k), .bool (F k).isSome]) w:=by
 obtain⟨D,h,h2,h3⟩:=h
 obtain⟨v,ps,hrun,hv⟩:=h.look_ok Rx underlying132 (zero74 w) (Zbl none) (ZaV hk)
 obtain⟨h4,h5⟩:=h3 k hk
 have hv':ptrR v=some (pd (F k),ps):=by rw[←h4];exact hv
 rw[hrun,h5,ptrR_inv hv']
theorem MapIs.len {w:World} {b n sz:Nat} {F:KK->Option Nat} (h:MapIs w b n sz F) (ty:TypeId):(Builtin.len_ #[132] ty #[.map (some b)]).run prog w= .ok (.int .i64 sz) w:=by
 obtain⟨D,h,h2,h3⟩:=h
 rw[h.len underlying132 ty,h2]
def Ny (F:KK->Option Nat) (k:KK) (r:Option Nat):KK->Option Nat:=fun q=>if q.s=k.s/\q.n=k.n then r else F q
theorem Lk (F:KK->Option Nat) (k:KK) (r:Option Nat):Ny F k r k=r:=by simp[Ny]
theorem Ki {F:KK->Option Nat} {k q:KK} (h:q≠k) (r:Option Nat):Ny F k r q=F q:=by
 unfold Ny
 rw[if_neg (fun e=>h (KK.ext' e.1 e.2))]
theorem MapIs.store {w:World} {b n sz:Nat} {F:KK->Option Nat} (h:MapIs w b n sz F) {k:KK} (hk:OkK k) (hn:n<maxLen) (r:Nat):
  ∃w',(Instr.mapUpdate 132 (.map (some b)) k.agg (pv (some r))).run prog w= .ok () w'/\MapIs w' b (n+1) (if (F k).isSome then sz else sz+1) (Ny F k (some r))/\w.mapTurned w' b:=by
 obtain⟨D,h,h2,h3⟩:=h
 obtain⟨w',hrun,ho,ht⟩:=h.store Rx underlying132 hn (ZaV hk) (Zbl (some r))
 have ti:=h.tidy Rx
 refine⟨w',hrun,⟨_,ho, ?_,fun q hq=> ?_⟩,ht⟩
 ·rw[size_put ti,(h3 k hk).2,h2]
 ·by_cases e:q=k
  ·subst e
   rw[atKey_put_same ti.isMap (kl_key hk),has_put_same ti.isMap (kl_key hk),Lk]
   exact⟨rfl,rfl⟩
  ·have ne:kl q≠kl k:=fun e'=>e (kl_inj hq hk e')
   rw[atKey_put_other ne,has_put_other ne,Ki e]
   exact h3 q hq
theorem MapIs.drop {w:World} {b n sz:Nat} {F:KK->Option Nat} (h:MapIs w b n sz F) {k:KK} (hk:OkK k) (ty:TypeId):
  ∃w',(Builtin.delete_ #[132,42] ty #[.map (some b),k.agg]).run prog w= .ok (.tuple #[]) w'/\MapIs w' b n (if (F k).isSome then sz - 1 else sz) (Ny F k none)/\w.mapTurned w' b:=by
 obtain⟨D,h,h2,h3⟩:=h
 obtain⟨w',hrun,ho,ht⟩:=h.drop Rx underlying132 (ZaV hk) ty
 have ti:=h.tidy Rx
 have hs:=size_del (k:=kl k) ti
 refine⟨w',hrun,⟨_,ho, ?_,fun q hq=> ?_⟩,ht⟩
 ·rw[(h3 k hk).2] at hs
  split at hs<;>rename_i hc<;>simp[hc]<;>omega
 ·by_cases e:q=k
  ·subst e
   rw[atKey_del_same,has_del_same,Lk]
   exact⟨rfl,rfl⟩
  ·have ne:kl q≠kl k:=fun e'=>e (kl_inj hq hk e')
   rw[atKey_del_other ne,has_del_other ne,Ki e]
   exact h3 q hq
end
section
open Go Go.Proofs Go.Maps Go.RowKit
def Holds (W:World) (B:Nat) (cs:List Value):Prop:=(∀j,W.frozen? ⟨B,j,none⟩=false)/\W.rangeAt B 0 cs
theorem Holds.block {W W1:World} {B:Nat} {cs:List Value} (h:Holds W B cs) (he:W1.heap[B]? =W.heap[B]?):Holds W1 B cs:=by
 have hc: ∀j,W1.cell? ⟨B,j,none⟩=W.cell? ⟨B,j,none⟩:=fun j=>World.cell?_of_block he
 have hf: ∀j,W1.frozen? ⟨B,j,none⟩=W.frozen? ⟨B,j,none⟩:=fun j=>World.frozen?_of_block he
 unfold Holds World.rangeAt at *
 simp only[hc,hf]
 exact h
theorem Holds.new (w:World) (cs:List Value) (t:TypeId):Holds (w.alloc (Obj.cells cs.toArray t)) w.heap.size cs:=by
 refine⟨fun j=> ?_,fun j v hv=> ?_⟩
 ·simp[go_sem]
 ·simp[go_sem]
  exact hv
theorem Holds.cell {W:World} {B:Nat} {cs:List Value} (h:Holds W B cs) (p:Nat) {v:Value} (hp:cs[p]? =some v):W.cell? ⟨B,p,none⟩=some v:=by
 have:=h.2 p v hp
 simpa using this
theorem Holds.mid {W:World} {B:Nat} {cs:List Value} (h:Holds W B cs) (p n:Nat):W.rangeAt B p ((cs.drop p).take n):=by
 intro j v hv
 rw[List.getElem?_take] at hv
 split at hv
 ·rw[List.getElem?_drop] at hv
  exact h.cell (p+j) hv
 ·cases hv
theorem Holds.there {W:World} {B:Nat} {cs:List Value} (h:Holds W B cs) (p n:Nat) (hp:p+n<=cs.length):W.there B p n:=by
 intro j hj
 refine⟨?_,h.1 _⟩
 rw[h.cell (p+j) (List.getElem?_eq_getElem (by omega))]
 rfl
theorem Holds.lt {W:World} {B:Nat} {cs:List Value} (h:Holds W B cs) (hc:0<cs.length):B<W.heap.size:=by
 have h0:=h.cell 0 (List.getElem?_eq_getElem hc)
 rcases Nat.lt_or_ge B W.heap.size with h1|h1
 ·exact h1
 ·exfalso
  have e:W.heap[B]? =none:=Array.getElem?_eq_none h1
  simp[World.cell?,e] at h0
def Dq (cs:List Value) (p:Nat) (vs:List Value):List Value:=cs.take p++vs++cs.drop (p+vs.length)
theorem Holds.put {W:World} {B:Nat} {cs:List Value} (h:Holds W B cs) (p:Nat) (vs:List Value) (hp:p+vs.length<=cs.length):Holds (W.setCells B p vs) B (Dq cs p vs):=by
 refine⟨fun j=>by rw[World.frozen?_setCells];exact h.1 j,fun j v hv=> ?_⟩
 unfold Dq at hv
 have hth:=h.there p vs.length hp
 have e0:(⟨B,0+j,none⟩:Addr)=⟨B,j,none⟩:=by simp
 rw[e0]
 by_cases h1:j<p
 ·rw[List.getElem?_append_left (by simp;omega),List.getElem?_append_left (by simp;omega),List.getElem?_take,if_pos h1] at hv
  rw[World.cell?_setCells_out B vs p W ⟨B,j,none⟩ (fun _ _=>Or.inl h1)]
  exact h.cell j hv
 ·by_cases h2:j<p+vs.length
  ·rw[List.getElem?_append_left (by simp;omega),List.getElem?_append_right (by simp;omega)] at hv
   have h3:=World.rangeAt_setCells_same W B p vs hth (j - p) v (by simpa [Nat.min_eq_left (by omega:p<=cs.length)] using hv)
   rwa [show p+(j - p)=j by omega] at h3
  ·rw[List.getElem?_append_right (by simp;omega),List.getElem?_drop] at hv
   rw[World.cell?_setCells_out B vs p W ⟨B,j,none⟩ (fun _ _=>Or.inr (by show p+vs.length<=j;omega))]
   refine h.cell j ?_
   rw[←hv]
   congr 1
   simp
   omega
section
variable {o : Oper} {a : Act} {W : World} {x : Operand} {B p : Nat} {cs : List Value}
theorem Aj {v:Value} (t:TypeId) (hna: ∀w,(isAgg t).run Tryz.prog w= .ok false w) (ho:o.op= .load t x) (hx:a.eval x= .pointer (some ⟨B,p,none⟩)) (hc:Holds W B cs) (hv:cs[p]? =some v):(execOp a.eval o).run Tryz.prog W= .ok (.value v) W:=by
 have h0:=hc.cell p hv
 unfold execOp
 simp only[ho,hx]
 simp[go_sem,h0,hna]
theorem Ax {vs:List Value} (t:TypeId) (n:Nat) (hu: ∃d,Tryz.prog.underlying t=some d/\d.isRow=true) (hi:(Tryz.prog.info? t).map (·.size)=some n) (ho:o.op= .load t x) (hx:a.eval x= .pointer (some ⟨B,p,none⟩)) (hc:Holds W B cs) (hv:(cs.drop p).take n=vs) (hn:vs.length=n):(execOp a.eval o).run Tryz.prog W= .ok (.value (.agg vs.toArray)) W:=by
 obtain⟨d,hu,hd⟩:=hu
 have h0:=hc.mid p n
 rw[hv] at h0
 unfold execOp
 simp only[ho,hx,Instr.loadAt,Instr.sureAddr,Sem.run_bind,Sem.run_pure,Result.andThen_ok,run_loadVar_mid W B p t vs d h0 hu hd (by rw[hi,hn])]
end
end
section
open Go Go.Proofs Go.RowKit
def goodK (k:KK):Bool:=(Ol k.s k.n).good
theorem Ud (k:KK):goodK k=if k.n=0 then decide (k.s.size<=1048576) && vS k.s else decide (1<=k.n) && decide (k.n<=65536) && k.s.toList.isEmpty:=by
 unfold goodK Ol
 by_cases h:k.n=0
 ·rw[if_pos h,if_pos h]
  simp[VV.good,Ef,inG,Lx,Nf,vS]
 ·rw[if_neg h,if_neg h]
  simp[VV.good,Ef,inG,Lx]
  cases k.s.toList.isEmpty<;>simp
theorem Om {k:KK} (h:goodK k=true):k.s.size<=1048576:=Zcj h
theorem goodK_n {k:KK} (h:goodK k=true):0<=k.n/\k.n<=65536:=by
 rw[Ud] at h
 by_cases hn:k.n=0
 ·omega
 ·rw[if_neg hn] at h
  simp at h
  omega
theorem subI (x y:Int) (hx: -1099511627776<=x/\x<=1099511627776) (hy: -1099511627776<=y/\y<=1099511627776) (w:World):(binOp .sub 3 (.int .i64 x) (.int .i64 y)).run Tryz.prog w= .ok (.int .i64 (x - y)) w:=by
 have e:IntKind.i64.wrap (x - y)=x - y:=by
  rw[IntKind.wrap_i64]
  omega
 simp[binOp,go_sem,e]
end
end Go.Proofs.YtfefpbjkbmaicaaGreatDoor
namespace Go.Proofs
open Go.Shelf
def Tryz.lays283_ren:Go.Shelf.Ren:=⟨fun|283=>78|n=>n,fun|3=>3|9=>9|4=>4|n=>n,fun|n=>n⟩
theorem Tryz.lays283:Go.Proofs.Lays.n283 Tryz.prog Tryz.lays283_ren:={
 mixed:=by kernel_rfl
 f283:=Tryz.func78.trans (congrArg some (by kernel_rfl))
 t3:=Tryz.underlying3
 a3:=Tryz.isAgg3
 z3:=Tryz.sizeOf3
 v3:=Tryz.zeroValue3
 t4:=Tryz.underlying4
 a4:=Tryz.isAgg4
 z4:=Tryz.sizeOf4
 v4:=Tryz.zeroValue4
 t9:=Tryz.underlying9
 a9:=Tryz.isAgg9
 z9:=Tryz.sizeOf9
 v9:=Tryz.zeroValue9}
open Go.Lib in
/-- internal/strconv.small: "small returns the string for an i with 0 <= i < nSmalls.": i's decimal numeral. The world is as it was. (LAID: no walk: one application.) -/
theorem Tryz.internal_strconv_small (i:Nat) (h:i<100) (w:World):
  Calls Tryz.prog 78 #[.int .i64 i] w fun e w'=>e= .returned (.string ⟨(Lib.decDigits i).toArray⟩)/\w'=w:=Any.internal_strconv_small Tryz.lays283 i h w
def Tryz.laysM284_ren:Go.Shelf.Ren:=⟨fun|284=>79|129=>93|317=>92|318=>94|n=>n,fun|53=>91|3=>3|212=>167|0=>0|4=>4|46=>169|5=>5|9=>9|n=>n,fun|17=>1|n=>n⟩
theorem Tryz.laysM284:Go.Proofs.LaysM.n284 Tryz.prog Tryz.laysM284_ren:={
 mixed:=by kernel_rfl
 f129:=Tryz.func93.trans (congrArg some (by kernel_rfl))
 f284:=Tryz.func79.trans (congrArg some (by kernel_rfl))
 f317:=Tryz.func92.trans (congrArg some (by kernel_rfl))
 f318:=Tryz.func94.trans (congrArg some (by kernel_rfl))
 t0:=Tryz.underlying0
 a0:=Tryz.isAgg0
 z0:=Tryz.sizeOf0
 v0:=Tryz.zeroValue0
 t3:=Tryz.underlying3
 a3:=Tryz.isAgg3
 z3:=Tryz.sizeOf3
 v3:=Tryz.zeroValue3
 t4:=Tryz.underlying4
 a4:=Tryz.isAgg4
 z4:=Tryz.sizeOf4
 v4:=Tryz.zeroValue4
 t5:=Tryz.underlying5
 a5:=Tryz.isAgg5
 z5:=Tryz.sizeOf5
 v5:=Tryz.zeroValue5
 t9:=Tryz.underlying9
 a9:=Tryz.isAgg9
 z9:=Tryz.sizeOf9
 v9:=Tryz.zeroValue9
 t46:=Tryz.underlying169
 a46:=Tryz.isAgg169
 z46:=Tryz.sizeOf169
 v46:=Tryz.zeroValue169
 t53:=Tryz.underlying91
 a53:=Tryz.isAgg91
 z53:=Tryz.sizeOf91
 v53:=Tryz.zeroValue91
 t212:=Tryz.underlying167
 a212:=Tryz.isAgg167
 z212:=Tryz.sizeOf167
 v212:=Tryz.zeroValue167
 g17:=by kernel_rfl
 i0:=by kernel_rfl
 i3:=by kernel_rfl
 i4:=by kernel_rfl
 i5:=by kernel_rfl
 i9:=by kernel_rfl
 i46:=by kernel_rfl
 i53:=by kernel_rfl
 i212:=by kernel_rfl
 m17:=by kernel_rfl}
open Go.Lib in
theorem Tryz.internal_strconv_numDigits (u : Nat) (h1 : 1 ≤ u) (h2 : u < 18446744073709551616) (w : World) (htab : Lib.TabIs Tryz.prog w "internal/strconv.uint64pow10" .u64 Lib.pow10Tab) :
  Calls Tryz.prog 79 #[.int .u64 u] w fun e w'=>e= .returned (.int .i64 (Lib.nDigits u))/\w'=w:=Any.internal_strconv_numDigits Tryz.laysM284 u h1 h2 w htab
def Tryz.lays285_ren:Go.Shelf.Ren:=⟨fun|285=>80|n=>n,fun|37=>140|53=>91|3=>3|4=>4|51=>44|9=>9|5=>5|0=>0|n=>n,fun|n=>n⟩
theorem Tryz.lays285:Go.Proofs.Lays.n285 Tryz.prog Tryz.lays285_ren:={
 mixed:=by kernel_rfl
 f285:=Tryz.func80.trans (congrArg some (by kernel_rfl))
 t0:=Tryz.underlying0
 a0:=Tryz.isAgg0
 z0:=Tryz.sizeOf0
 v0:=Tryz.zeroValue0
 t3:=Tryz.underlying3
 a3:=Tryz.isAgg3
 z3:=Tryz.sizeOf3
 v3:=Tryz.zeroValue3
 t4:=Tryz.underlying4
 a4:=Tryz.isAgg4
 z4:=Tryz.sizeOf4
 v4:=Tryz.zeroValue4
 t5:=Tryz.underlying5
 a5:=Tryz.isAgg5
 z5:=Tryz.sizeOf5
 v5:=Tryz.zeroValue5
 t9:=Tryz.underlying9
 a9:=Tryz.isAgg9
 z9:=Tryz.sizeOf9
 v9:=Tryz.zeroValue9
 t37:=Tryz.underlying140
 a37:=Tryz.isAgg140
 z37:=Tryz.sizeOf140
 v37:=Tryz.zeroValue140
 t51:=Tryz.underlying44
 a51:=Tryz.isAgg44
 z51:=Tryz.sizeOf44
 v51:=Tryz.zeroValue44
 t53:=Tryz.underlying91
 a53:=Tryz.isAgg91
 z53:=Tryz.sizeOf91
 v53:=Tryz.zeroValue91}
open Go.RowKit Go.Sort Go.Lib in
/-- internal/strconv.formatBase10: "formatBase10 formats the decimal representation of u into a. The caller is responsible for ensuring that a is big enough to hold u. If a is too big, leading zeros will be filled in as needed.": THE ROW HOLDS u's DIGITS ('FmtInv .. 0 ..': every place t holds 'dg u (len - 1 - t)'); all else is as it was but for the count of draws. (LAID: no walk: one application.) -/
theorem Tryz.internal_strconv_formatBase10 (blk off cap:Nat) (u:Nat) (d:Array UInt8) (w:World) (hH:Holds (fun (b:UInt8)=>Value.int .u8 (b.toNat:Int)) w blk off d) (hu:u<10^d.size) (hu64:u<18446744073709551616) (hsz:d.size<4611686018427387904):
  Calls Tryz.prog 80 #[.slice (some ⟨blk,off,none⟩) d.size cap, .int .u64 u] w fun e w'=>
   e= .returned (.tuple #[])/\ ∃(n v':Nat) (dk:Array UInt8),w'=(putRow (fun (b:UInt8)=>Value.int .u8 (b.toNat:Int)) w blk off dk).drewN n/\FmtInv d.size u 0 v' dk:=Any.internal_strconv_formatBase10 Tryz.lays285 blk off cap u d w hH hu hu64 hsz
end Go.Proofs
namespace Go.Proofs.YtfefpbjkbmaicaaGreatDoor
set_option maxRecDepth 100000
set_option maxHeartbeats 0
section
open Go Go.Proofs Go.RowKit
theorem small72 (u:Nat) (h:u<100) (w:World):Calls Tryz.prog 62 #[.int .u64 (u:Nat), .int .i64 10] w fun e w'=>e= .returned (.string ⟨(Lib.decDigits u).toArray⟩)/\w'=w:=by
 have z:(u:Int)<100:=by omega
 have HS:=Ac (fun w=>Tryz.internal_strconv_small u h w)
 generalize Lib.decDigits u=d at *
 go_enter Tryz.func62,Tryz.ntmps62
 go_wp2_with fail
 refine(Aa HS _).mono ?_
 rintro e w1 ⟨rfl,rfl⟩
 go_wp2
 go_ret
 exact⟨rfl,rfl⟩
end
section
open Go Go.Proofs Go.RowKit Go.Sort Tryz
def TabP (w : World) : Prop := Lib.TabIs prog w "internal/strconv.uint64pow10" .u64 Lib.pow10Tab
theorem TabP.on {w w':World} (h:TabP w) (hb:Below w.heap.size w w'):TabP w':=by
 unfold TabP Lib.TabIs World.var? at *
 cases hg : prog.globalNamed "internal/strconv.uint64pow10" with
 |none=>simp[hg] at h
 |some g=>
  simp only[hg,Option.bind_some] at h ⊢
  have hlt:g<w.heap.size:=by
   rcases Nat.lt_or_ge g w.heap.size with h'|h'
   ·exact h'
   ·rw[Array.getElem?_eq_none h'] at h;simp at h
  rw[hb.block g hlt]
  exact h
theorem holds0 (w:World) (T:TypeId) (nd:Nat) (hs:nd<=24):Sort.Holds (fun (b:UInt8)=>Value.int .u8 (b.toNat:Int)) (w.alloc (.cells Lib.zeros24 T)) w.heap.size 0 (Array.replicate nd (0:UInt8)):=fun j hj=>by
 have hj':j<nd:=by simpa using hj
 refine⟨?_,World.frozen?_alloc_new _ _ _ _⟩
 rw[World.cell?_alloc_new,Lib.zeros24_at _ (by omega),getElem!_pos _ j hj]
 simp
theorem fin0 (w:World) (o:Obj) (dk:Array UInt8) (k:Nat): ∃os,(Sort.putRow (fun (b:UInt8)=>Value.int .u8 (b.toNat:Int)) (w.alloc o) w.heap.size 0 dk).drewN k=Sort.grow (w.drewN k) os:=by
 rw[Sort.alloc_eq_grow]
 obtain⟨os',_,e⟩:=Sort.putRow_grow_new (fun (b:UInt8)=>Value.int .u8 (b.toNat:Int)) w #[o] w.heap.size 0 dk (Nat.le_refl _)
 exact⟨os',by rw[e];rfl⟩
theorem fmt72 (u:Nat) (h100:100<=u) (hu64:u<18446744073709551616) (w:World) (htab:TabP w):Calls prog 62 #[.int .u64 (u:Nat), .int .i64 10] w fun e w'=>e= .returned (.string ⟨(Lib.decDigits u).toArray⟩)/\Below w.heap.size w w':=by
 have z: ¬(u:Int)<100:=by omega
 have hu1:1<=u:=by omega
 have hnd20:Lib.nDigits u<=20:=by have:=Lib.numDigits_eq u hu1 hu64;split at this<;>omega
 have hal:prog.arrayLen 143=24:=by kernel_rfl
 have hsl: ∀W,(Instr.sliceAt 143 (.pointer (some ⟨w.heap.size,0,none⟩)) none (some (.int .i64 (Lib.nDigits u:Int))) none).run prog W= .ok (.slice (some ⟨w.heap.size,0,none⟩) (Lib.nDigits u) 24) W:=fun W=>by
  rw[run_sliceAt_array_h W 143 ⟨w.heap.size,0,none⟩ (by kernel_rfl) .i64 (Lib.nDigits u:Int) (by omega) (by rw[hal];omega)]
  go_simp
 have hH0:=holds0 w 143 (Lib.nDigits u) (by omega)
 have hfmt:=Tryz.internal_strconv_formatBase10 w.heap.size 0 24 u (Array.replicate (Lib.nDigits u) 0) (w.alloc (.cells Lib.zeros24 143)) hH0 (by rw[Array.size_replicate];exact Lib.lt_pow_nDigits u) hu64 (by rw[Array.size_replicate];omega)
 rw[Array.size_replicate] at hfmt
 have HH0:=Ac hH0
 have HF0:=Ac hfmt
 have HT:=Ac htab
 clear hH0 hal htab hfmt
 go_enter func62,ntmps62
 go_wp2_with fail
 refine(Tryz.internal_strconv_numDigits u hu1 hu64 _ (Lib.tabIs_alloc (Aa HT) _)).mono ?_
 rintro e w' ⟨rfl,rfl⟩
 go_wp2_with fail
 refine(Aa HF0).mono ?_
 rintro e w' ⟨rfl,k,v',dk,rfl,hF⟩
 have hcv:(convert 140 9 (.slice (some ⟨w.heap.size,0,none⟩) (Lib.nDigits u) 24)).run prog ((putRow (fun (b:UInt8)=>Value.int .u8 (b.toNat:Int)) (w.alloc (.cells Lib.zeros24 143)) w.heap.size 0 dk).drewN k)= .ok (.string ⟨(Lib.decDigits u).toArray⟩) ((putRow (fun (b:UInt8)=>Value.int .u8 (b.toNat:Int)) (w.alloc (.cells Lib.zeros24 143)) w.heap.size 0 dk).drewN k):=by
  have h:=run_convert_bytes_back (P:=prog) ((putRow (fun (b:UInt8)=>Value.int .u8 (b.toNat:Int)) (w.alloc (.cells Lib.zeros24 143)) w.heap.size 0 dk).drewN k) 140 9 5 ⟨w.heap.size,0,none⟩ 24 (Lib.decDigits u) underlying140 underlying5 underlying9 (fun j hj=>by
   rw[Lib.row_is_numeral hF j hj,Lib.add_plain,World.cell?_drewN]
   exact cell?_putRow (fun (b:UInt8)=>Value.int .u8 (b.toNat:Int)) _ w.heap.size 0 _ dk (Aa HH0) (by rw[hF.size,Array.size_replicate]) j (by rw[hF.size];rw[Lib.decDigits_length] at hj;exact hj))
  rw[Lib.decDigits_length] at h
  exact h
 go_wp2
 go_ret
 obtain⟨os,eo⟩:=fin0 w (.cells Lib.zeros24 143) dk k
 refine⟨rfl, ?_⟩
 rw[eo]
 exact Lib.below_grow _ _ (Nat.le_refl _) _ _

def Ou (u:Nat):ByteArray:=⟨(Lib.decDigits u).toArray⟩
theorem fmt46 (u:Nat) (hu:u<18446744073709551616) (w:World) (htab:TabP w):Calls prog 34 #[.int .u64 (u:Nat), .int .i64 10] w fun e w'=>e= .returned (.string (Ou u))/\Below w.heap.size w w':=by
 have H72:Hid (∀w,TabP w->Calls prog 62 #[.int .u64 (u:Nat), .int .i64 10] w fun e w'=>e= .returned (.string (Ou u))/\Below w.heap.size w w'):=Ac (fun w hT=>by
  by_cases h:u<100
  ·exact(small72 u h w).mono (fun e w' h=>⟨h.1,h.2▸Below.refl _ _⟩)
  ·exact fmt72 u (by omega) hu w hT)
 have HT:=Ac htab
 clear htab
 generalize Ou u=s at *
 go_enter func34,ntmps34
 go_wp2_with fail
 refine(Aa H72 _ (Aa HT)).mono ?_
 rintro _ w1 ⟨rfl,hb⟩
 go_wp2
 go_ret
 exact⟨rfl,hb⟩
end
section
open Go Go.Proofs Go.RowKit Tryz
theorem Pz (w:World) (base:Nat) (t ty e:TypeId) (i:TypeInfo) (z:Value) (size bytes:Nat) (ht:prog.underlying t=some (.slice e)) (hi:prog.info? e=some i) (hz:i.zero=some z)
  (hsize:i.size=size) (hby:i.bytes=bytes) (hzs:z.cells.size=size) (hsz:0<size) (v:Value) (n:Nat) (xs:List Value) (hown:w.ownsRow base e size v n xs)
  (a:Addr) (m c:Nat) (news:List Value) (hl:news.length=m * size) (hnews: ∀j u,news[j]? =some u->w.cell? (a.add j)=some u) (h1: ∀u∈news,u.oneCell'=true)
  (h63:n+m<=maxLen) (hbytes:(n+m) * bytes<=140737488355328) (hbase:base<=w.heap.size):
  ∃v' w',(Builtin.append_ #[t,t] ty #[v, .slice (some a) m c]).run prog w= .ok v' w'/\w'.ownsRow base e size v' (n+m) (xs++news)/\w.grownBy w' v.ownBlock/\(v'.ownBlock=v.ownBlock∨v'.ownBlock=some w.heap.size):=by
 obtain⟨v',w',hr,ho,hg,hiff⟩:=run_append_own w base t ty e i z size bytes ht hi hz hsize hby hzs hsz v n xs hown a m c news hl hnews h1 h63 hbytes hbase
 refine⟨v',w',hr,ho,hg, ?_⟩
 have hm:n+m<=9223372036854775807:=by simp only[maxLen] at h63;omega
 have inj: ∀{v2:Value} {w2:World},(Builtin.append_ #[t,t] ty #[v, .slice (some a) m c]).run prog w= .ok v2 w2->v'=v2:=fun h2=>by
  rw[hr] at h2
  injection h2
 subst hsize
 subst hby
 rcases hown.2 with ⟨rfl,rfl⟩|⟨g,cap,cur,rfl,hbg,hgg,hnc,hcm,hcs,htake⟩
 ·by_cases h0:m=0
  ·exact Or.inl (by rw[hiff.2 ⟨rfl,h0⟩])
  ·right
   have hb:=hbytes
   rw[Nat.zero_add] at hb
   rw[inj (run_append_nil w t ty e i z ht hi hz a m c news hl hnews (by omega) (by omega) (by omega))]
   rfl
 ·by_cases hroom:n+m<=cap
  ·left
   have hfit:n * i.size+news.length<=cur.size:=by rw[hl,hcs,←Nat.add_mul];exact Nat.mul_le_mul_right _ hroom
   rw[inj (run_append_room w t ty e i ht hi g n cap cur hgg a m c news hl hnews h1 hroom hfit)]
   rfl
  ·right
   rw[inj (run_append_grow w t ty e i z ht hi hz ⟨g,0,none⟩ n cap xs hown.1 (hown.cells (g:=g) rfl) a m c news hl hnews (by omega) (by omega) (growslice_fits (by omega) hbytes))]
   rfl
def Vz (w:World) (v v':Value):Prop:=v'.ownBlock=v.ownBlock∨v'.ownBlock=some w.heap.size
section
variable {ops : Array Oper} {rest : List Oper} {o : Oper} {a : Act} {w : World} {Q : Exit → Act → World → Prop} {s x : Operand} {base : Nat} {l m : List KK} {v u : Value}
end
section
variable {w W W' : World} {v3 v4 v5 v' : Value} {d : List Nat} {ks ys : List KK}
end
theorem ret23 {fn:Func} {R:Ending->World->Prop} {a:Act} {w:World} {b r:Nat} {d:KK} (hr:fn.results= #[.cell r 42]) (hdf:a.defers= [])
  (hx:a.tmps.getD r undef= .pointer (some ⟨b,0,none⟩)) (hc:KLies w b d) (h:R (.returned (d.agg)) w):bodyPost prog fn R .ret a w:=by
 obtain⟨t,hu,hd⟩:=isrow23
 have hl:=run_loadVar_mid (P:=prog) w b 0 42 _ t hc.range hu hd info23
 refine⟨hdf,_, ?_,h⟩
 simp only[Array.getD_eq_getD_getElem?] at hx
 unfold results
 simp[hr,hx,hl,asAddr]
 try rfl
theorem Nc (u:Nat) (hu:u<=4294967295) (w:World) (htab:TabP w):Calls prog 8 #[.int .u32 (u:Nat)] w fun e w'=>e= .returned (KK.agg ⟨Ou u,0⟩)/\Below w.heap.size w w':=by
 have H46:=Ac (fun w hT=>fmt46 u (by omega) w hT)
 have HT:=Ac htab
 clear htab
 have wu:IntKind.u64.wrap (u:Int)=u:=by rw[IntKind.wrap_u64];omega
 have LL:=Ac (Kq.nil w)
 generalize Ou u=s at *
 go_enter func8,ntmps8
 go_wp2_with (first|go_skip|((with_reducible apply Zaa);(case ho=>rfl);(case hw=>rfl);(case hL=>exact Aa LL);(intro X LX hbX;simp only[nn];simp only[List.cons_append,List.nil_append] at LX;replace LL:=Ac LX;clear LX hbX))|((with_reducible apply Zz (u:=⟨s,0⟩) (l:= []) (d:=Mk));(case ho=>rfl);(case hw=>rfl);(case hL=>exact Aa LL);(case hx=>rfl);(case hy=>rfl);(case hm=>rfl);(case hne=>exact fun q hq=>by cases hq);(intro X LX hgX hsX;simp only[nn];simp only[List.cons_append,List.nil_append] at LX;replace LL:=Ac LX;clear LX hgX hsX)))
 refine(Aa H46 _ ((Aa HT).on (Aa LL).below)).mono ?_
 rintro _ w1 ⟨rfl,hb⟩
 replace LL:=Ac ((Aa LL).on hb)
 clear hb
 go_wp2_with (first|go_skip|((with_reducible apply Zaa);(case ho=>rfl);(case hw=>rfl);(case hL=>exact Aa LL);(intro X LX hbX;simp only[nn];simp only[List.cons_append,List.nil_append] at LX;replace LL:=Ac LX;clear LX hbX))|((with_reducible apply Zz (u:=⟨s,0⟩) (l:= []) (d:=Mk));(case ho=>rfl);(case hw=>rfl);(case hL=>exact Aa LL);(case hx=>rfl);(case hy=>rfl);(case hm=>rfl);(case hne=>exact fun q hq=>by cases hq);(intro X LX hgX hsX;simp only[nn];simp only[List.cons_append,List.nil_append] at LX;replace LL:=Ac LX;clear LX hgX hsX)))
 refine ret23 rfl rfl rfl ((Aa LL).get 0 rfl) ?_
 exact⟨rfl,(Aa LL).below⟩
