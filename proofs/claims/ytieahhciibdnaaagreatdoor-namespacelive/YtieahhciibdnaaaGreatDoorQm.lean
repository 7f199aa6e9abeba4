import Derived.Test.YtieahhciibdnaaaGreatDoorQl
import Derived.Stop.Asserts
import Derived.Deep.MidRow
import Derived.BigFrame
set_option linter.all false
namespace Go.Proofs.YtieahhciibdnaaaGreatDoor
set_option maxRecDepth 100000
set_option maxHeartbeats 0
section
open Go Go.Proofs Go.RowKit
structure DD where
 v:VV
 g:VV
 s:VV
 w:Int
 e:Int
 c:Int
def DD.agg (d:DD):Value:= .agg #[.int .i64 d.v.k, .bool d.v.b, .float .f64 d.v.x, .string d.v.s, .int .i64 d.v.i, .int .i64 d.g.k, .bool d.g.b, .float .f64 d.g.x, .string d.g.s, .int .i64 d.g.i, .int .i64 d.s.k, .bool d.s.b, .float .f64 d.s.x, .string d.s.s, .int .i64 d.s.i, .int .i64 d.w, .int .i64 d.e, .int .i64 d.c]
theorem Gc (n:DD):n.agg= .agg #[.int .i64 n.v.k, .bool n.v.b, .float .f64 n.v.x, .string n.v.s, .int .i64 n.v.i, .int .i64 n.g.k, .bool n.g.b, .float .f64 n.g.x, .string n.g.s, .int .i64 n.g.i, .int .i64 n.s.k, .bool n.s.b, .float .f64 n.s.x, .string n.s.s, .int .i64 n.s.i, .int .i64 n.w, .int .i64 n.e, .int .i64 n.c]:=rfl
def DD.obj (d:DD):Obj:=Obj.cells #[.int .i64 d.v.k, .bool d.v.b, .float .f64 d.v.x, .string d.v.s, .int .i64 d.v.i, .int .i64 d.g.k, .bool d.g.b, .float .f64 d.g.x, .string d.g.s, .int .i64 d.g.i, .int .i64 d.s.k, .bool d.s.b, .float .f64 d.s.x, .string d.s.s, .int .i64 d.s.i, .int .i64 d.w, .int .i64 d.e, .int .i64 d.c] 48
def VV.obj (d:VV):Obj:=Obj.cells #[.int .i64 d.k, .bool d.b, .float .f64 d.x, .string d.s, .int .i64 d.i] 26
def zeroV:VV:=⟨0,false,0,⟨#[]⟩,0⟩
def Ar:DD:=⟨zeroV,zeroV,zeroV,0,0,0⟩
def Lies (W:World) (B:Nat) (d:DD):Prop:=(∀j,W.frozen? ⟨B,j,none⟩=false)/\W.cell? ⟨B,0,none⟩=some (.int .i64 d.v.k)/\W.cell? ⟨B,1,none⟩=some (.bool d.v.b)/\W.cell? ⟨B,2,none⟩=some (.float .f64 d.v.x)/\W.cell? ⟨B,3,none⟩=some (.string d.v.s)/\W.cell? ⟨B,4,none⟩=some (.int .i64 d.v.i)/\W.cell? ⟨B,5,none⟩=some (.int .i64 d.g.k)/\W.cell? ⟨B,6,none⟩=some (.bool d.g.b)/\W.cell? ⟨B,7,none⟩=some (.float .f64 d.g.x)/\W.cell? ⟨B,8,none⟩=some (.string d.g.s)/\W.cell? ⟨B,9,none⟩=some (.int .i64 d.g.i)/\W.cell? ⟨B,10,none⟩=some (.int .i64 d.s.k)/\W.cell? ⟨B,11,none⟩=some (.bool d.s.b)/\W.cell? ⟨B,12,none⟩=some (.float .f64 d.s.x)/\W.cell? ⟨B,13,none⟩=some (.string d.s.s)/\W.cell? ⟨B,14,none⟩=some (.int .i64 d.s.i)/\W.cell? ⟨B,15,none⟩=some (.int .i64 d.w)/\W.cell? ⟨B,16,none⟩=some (.int .i64 d.e)/\W.cell? ⟨B,17,none⟩=some (.int .i64 d.c)
def VLies (W:World) (B:Nat) (d:VV):Prop:=(∀j,W.frozen? ⟨B,j,none⟩=false)/\W.cell? ⟨B,0,none⟩=some (.int .i64 d.k)/\W.cell? ⟨B,1,none⟩=some (.bool d.b)/\W.cell? ⟨B,2,none⟩=some (.float .f64 d.x)/\W.cell? ⟨B,3,none⟩=some (.string d.s)/\W.cell? ⟨B,4,none⟩=some (.int .i64 d.i)
theorem Lies.new (w:World) (B:Nat) (hB:B=w.heap.size) (d:DD):Lies (w.alloc d.obj) B d:=by
 subst hB
 unfold Lies DD.obj
 simp[go_sem]
theorem Lies.on {W W1:World} {B:Nat} {d:DD} (h:Lies W B d) (hB:B<W.heap.size) (hb:Below W.heap.size W W1):Lies W1 B d:=by
 unfold Lies at *
 simp only[hb.cell (p:=⟨B,_,none⟩) hB,hb.frozen (p:=⟨B,_,none⟩) hB]
 exact h
theorem VLies.new (w:World) (B:Nat) (hB:B=w.heap.size) (d:VV):VLies (w.alloc d.obj) B d:=by
 subst hB
 unfold VLies VV.obj
 simp[go_sem]
theorem VLies.on {W W1:World} {B:Nat} {d:VV} (h:VLies W B d) (hB:B<W.heap.size) (hb:Below W.heap.size W W1):VLies W1 B d:=by
 unfold VLies at *
 simp only[hb.cell (p:=⟨B,_,none⟩) hB,hb.frozen (p:=⟨B,_,none⟩) hB]
 exact h
inductive PB where
 |D (d:DD)
 |V (v:VV)
def PB.obj:PB->Obj
 | .D d=>d.obj
 | .V v=>v.obj
def PB.lies (W:World) (B:Nat):PB->Prop
 | .D d=>Lies W B d
 | .V v=>VLies W B v
theorem PB.new (w:World) (B:Nat) (hB:B=w.heap.size) (p:PB):p.lies (w.alloc p.obj) B:=by
 cases p
 ·exact Lies.new w B hB _
 ·exact VLies.new w B hB _
theorem PB.on {W W1:World} {B:Nat} {p:PB} (h:p.lies W B) (hB:B<W.heap.size) (hb:Below W.heap.size W W1):p.lies W1 B:=by
 cases p
 ·exact Lies.on h hB hb
 ·exact VLies.on h hB hb
theorem PB.drew {W:World} {B:Nat} {p:PB} (h:p.lies W B):p.lies W.drew B:=by
 cases p
 ·exact h
 ·exact h
def HoldsP (W:World) (B:Nat):List PB->Prop
 | []=>True
 |p::r=>p.lies W B/\HoldsP W (B+1) r
theorem HoldsP.on {W W1:World} (hb:Below W.heap.size W W1): ∀{l:List PB} {B:Nat},HoldsP W B l->B+l.length<=W.heap.size->HoldsP W1 B l
 | [],_,_,_=>trivial
 |p::r,B,h,hs=>⟨PB.on h.1 (by simp at hs;omega) hb,HoldsP.on hb h.2 (by simp at hs;omega)⟩
theorem HoldsP.drew {W:World}: ∀{l:List PB} {B:Nat},HoldsP W B l->HoldsP W.drew B l
 | [],_,_=>trivial
 |_::_,_,h=>⟨PB.drew h.1,h.2.drew⟩
theorem HoldsP.snoc {W:World} {p:PB}: ∀{l:List PB} {B:Nat},HoldsP W B l->p.lies W (B+l.length)->HoldsP W B (l++ [p])
 | [],B,_,h=>⟨by simpa using h,trivial⟩
 |q::r,B,hl,h=>⟨hl.1,HoldsP.snoc hl.2 (by
   have e:B+1+r.length=B+(q::r).length:=by
    simp
    omega
   rw[e]
   exact h)⟩
structure Lie (w W:World) (l:List PB):Prop where
 below:Below w.heap.size w W
 size:w.heap.size+l.length<=W.heap.size
 holds:HoldsP W w.heap.size l
theorem Lie.nil (w:World):Lie w w []:=⟨Below.refl _ _,by simp,trivial⟩
theorem Lie.push {w W:World} {l:List PB} (h:Lie w W l) (hs:W.heap.size=w.heap.size+l.length) (p:PB):Lie w (W.alloc p.obj) (l++ [p]):=by
 refine⟨h.below.alloc (by omega) _,by simp;omega,HoldsP.snoc (h.holds.on ((Below.refl _ _).alloc (Nat.le_refl _) _) (by omega)) (PB.new W _ (by omega) p)⟩
theorem Lie.on {w W W1:World} {l:List PB} (h:Lie w W l) (hb:Below W.heap.size W W1):Lie w W1 l:=
 ⟨h.below.trans (hb.mono h.below.size),Nat.le_trans h.size hb.size,h.holds.on hb h.size⟩
theorem Lie.drew {w W:World} {l:List PB} (h:Lie w W l):Lie w W.drew l:=⟨h.below.drew,h.size,h.holds.drew⟩
theorem Lie.new1 (w:World) (p:PB):Lie w (w.alloc p.obj) [p]:=(Lie.nil w).push (by simp) p
theorem Lie.new2 (w:World) (p q:PB):Lie w ((w.alloc p.obj).alloc q.obj) [p,q]:=(Lie.new1 w p).push (by simp) q
theorem Lie.new3 (w:World) (p q r:PB):Lie w (((w.alloc p.obj).alloc q.obj).alloc r.obj) [p,q,r]:=(Lie.new2 w p q).push (by simp) r
theorem Lie.one {w W:World} {p:PB} {l:List PB} (h:Lie w W (p::l)):p.lies W w.heap.size:=h.holds.1
theorem Lie.two {w W:World} {p q:PB} {l:List PB} (h:Lie w W (p::q::l)):q.lies W (w.heap.size+1):=h.holds.2.1
theorem Lie.three {w W:World} {p q r:PB} {l:List PB} (h:Lie w W (p::q::r::l)):r.lies W (w.heap.size+2):=h.holds.2.2.1
end
section
open Go Go.Proofs Go.RowKit FM Tryz
theorem Px {P:Program} (d:Nat) (t:TypeId) (a b:Nat) (w:World) (h:P.underlying t=some (.float .f64)):(Op.equalIn (d+1) t (.float .f64 a) (.float .f64 b)).run P w= .ok (FloatKind.f64.format.order a b==some .eq) w:=by
 simp[Op.equalIn,run_underlying h]
 rfl
section
attribute [local go_sem] Gy
theorem Za7 (x:Nat) (hx:x<2^64) (w:World):Calls prog 132 #[.float .f64 x] w fun e w'=>e= .returned (.bool (decide (2^63<=x)))/\w'=w:=by
 have h:(wrap64 (x:Int)<0)=(2^63<=x):=by
  unfold wrap64
  rw[eq_iff_iff]
  omega
 go_enter func132,ntmps132
 go_wp2
 go_ret
 exact⟨by simp,rfl⟩
end
def thV (v:VV):Bool:= !(v.k==0 && !v.b && v.x==0 && v.s.toList.isEmpty && v.i==0)
attribute [local go_sem] Px
theorem Em (v:VV) (hx:v.x<2^64) (w:World):Calls prog 116 #[v.agg] w fun e w'=>e= .returned (.bool (thV v))/\Below w.heap.size w w':=by
 have hz:=Zb3 v.x hx
 have HS:=Ab (Za7 v.x hx)
 obtain⟨k,b,x,s,i⟩:=v
 unfold VV.agg thV
 dsimp only at *
 by_cases hk:k=0
 ·subst hk
  cases b
  ·generalize hq:(FloatKind.f64.format.order x 0==some .eq)=q at *
   cases q
   ·have hx0:(x==0)=false:=by
     simp at hz
     simp[hz]
    rw[hx0]
    have hq2: ¬FloatKind.f64.format.order x 0=some .eq:=by simpa using hq
    clear hz hq HS hx hx0
    go_enter func116,ntmps116
    go_wp2
    go_ret
    exact⟨rfl,(Below.refl w.heap.size w).alloc (Nat.le_refl _) _⟩
   ·have hx0:x=0∨x=2^63:=by
     simp at hz
     omega
    have hq2:FloatKind.f64.format.order x 0=some .eq:=by simpa using hq
    by_cases hs:s.toList.isEmpty=true
    ·have hs2:=Qo hs
     subst hs2
     by_cases hi:i=0
     ·subst hi
      have hr:(!((0:Int)==0 && !false && x==0 && ByteArray.empty.toList.isEmpty && (0:Int)==0))=decide (2^63<=x):=by
       rw[hs]
       rcases hx0 with rfl|rfl<;>rfl
      rw[hr]
      generalize decide (2^63<=x)=r at *
      clear hz hq hx hx0 hr hs
      go_enter func116,ntmps116
      go_wp2_with fail
      refine(Aa HS _).mono ?_
      rintro e w1 ⟨rfl,rfl⟩
      go_wp2
      go_ret
      exact⟨rfl,(Below.refl w.heap.size w).alloc (Nat.le_refl _) _⟩
     ·have hi2:(i==0)=false:=by simp[hi]
      rw[hi2,Bool.and_false]
      clear hz hq hx hx0 hs HS
      go_enter func116,ntmps116
      go_wp2
      go_ret
      exact⟨rfl,(Below.refl w.heap.size w).alloc (Nat.le_refl _) _⟩
    ·have hs1:s.toList.isEmpty=false:=by simpa using hs
     have hs2: ¬s.toList= []:=by simpa using hs1
     rw[hs1,Bool.and_false,Bool.false_and]
     clear hz hq hx hx0 hs HS hs1
     go_enter func116,ntmps116
     go_wp2
     go_ret
     exact⟨rfl,(Below.refl w.heap.size w).alloc (Nat.le_refl _) _⟩
  ·clear hz HS hx
   go_enter func116,ntmps116
   go_wp2
   go_ret
   exact⟨rfl,(Below.refl w.heap.size w).alloc (Nat.le_refl _) _⟩
 ·clear hz HS hx
  have hk2:(k==0)=false:=by simp[hk]
  rw[hk2]
  go_enter func116,ntmps116
  go_wp2
  go_ret
  exact⟨rfl,(Below.refl w.heap.size w).alloc (Nat.le_refl _) _⟩
def Df (d:DD):Int:=if (thV d.v||d.w !=0) && (thV d.g||thV d.s) then 0 else if thV d.v||d.w !=0 then 2 else if thV d.g||thV d.s then 3 else 1
def Yy (t:Int):Bool:=t==0||t==1||t==2
theorem Ah (t:Int) (w:World):Calls prog 119 #[.int .i64 t] w fun e w'=>e= .returned (.bool (t !=0))/\w'=w:=by
 go_enter func119,ntmps119
 go_wp2
 go_ret
 exact⟨rfl,rfl⟩
theorem Ac (t:Int) (w:World):Calls prog 118 #[.int .i64 t] w fun e w'=>e= .returned (.bool (Yy t))/\w'=w:=by
 unfold Yy
 by_cases h0:t=0
 ·subst h0
  go_enter func118,ntmps118
  go_wp2
  go_ret
  exact⟨rfl,rfl⟩
 ·have h0':(t==0)=false:=by simp[h0]
  by_cases h1:t=1
  ·subst h1
   go_enter func118,ntmps118
   go_wp2
   go_ret
   exact⟨rfl,rfl⟩
  ·have h1':(t==1)=false:=by simp[h1]
   rw[h0',h1']
   go_enter func118,ntmps118
   go_wp2
   go_ret
   exact⟨rfl,rfl⟩
def FD (d:DD):Prop:=d.v.x<2^64/\d.g.x<2^64/\d.s.x<2^64
theorem Zdx (t a:Int) (w:World):Calls prog 129 #[.int .i64 t, .int .i64 a] w fun e w'=>e= .returned (.int .i64 (if t !=0 then t else a))/\w'=w:=by
 by_cases h:t=0
 ·subst h
  go_enter func129,ntmps129
  go_wp2_with (go_at_call 119;refine(Ah _ _).mono ?_;rintro _ _ ⟨rfl,rfl⟩)
  go_ret
  exact⟨rfl,rfl⟩
 ·have h':(t !=0)=true:=by simp[h]
  rw[h',if_pos rfl]
  go_enter func129,ntmps129
  go_wp2_with (go_at_call 119;refine(Ah _ _).mono ?_;rintro _ _ ⟨rfl,rfl⟩)
  go_ret
  exact⟨rfl,rfl⟩
section
attribute [local go_sem] quo_pos quo_neg
end
end
section
open Go.RowKit FM
attribute [local go_sem] Gy Ds
theorem Oi (w:World):Calls Tryz.prog 128 #[] w fun e w'=>e= .returned (VV.agg ⟨1,false,0,ByteArray.empty,0⟩)/\Below w.heap.size w w':=by
 have HO:=Ab (Zbk)
 unfold VV.agg at *
 dsimp only at *
 go_enter Tryz.func128,Tryz.ntmps128
 go_wp2_with fail
 refine(Aa HO _).mono ?_
 rintro e w1 ⟨rfl,hb⟩
 have hB:=((Below.refl w.heap.size w).alloc (Nat.le_refl _) _).trans (hb.mono (by simp))
 obtain⟨r0,r1,r2,r3,r4,rf,rl⟩:=Mk (Qn _ w.heap.size _ _ _ _ _ _ rfl) hb
 clear hb HO
 go_wp2
 simp[bodyPost,results,Tryz.results128,go_sem,r0,r1,r2,r3,r4]
 exact set5 hB (by omega)
def eqB (a b:VV):Bool:=(decide (a.x=b.x)||isN a.x && isN b.x) && a.k==b.k && a.b==b.b && decide (a.s.toList=b.s.toList) && a.i==b.i
theorem eq_any (a b:VV) (w:World):Calls Tryz.prog 26 #[a.agg,b.agg] w fun e w'=>e= .returned (.bool (eqB a b))/\Below w.heap.size w w':=by
 have ha:=nanF a.x
 have hb:=nanF b.x
 obtain⟨k,b,x,s,i⟩:=a
 rename_i b'
 obtain⟨k',c,x',s',i'⟩:=b'
 unfold VV.agg
 dsimp only at *
 rw[←fo] at ha hb
 have hg:eqB ⟨k,b,x,s,i⟩ ⟨k',c,x',s',i'⟩=((decide (x=x')||isN x && isN x') && k==k' && b==c && decide (s.toList=s'.toList) && i==i'):=rfl
 rw[hg]
 clear hg
 generalize isN x=nx at *
 generalize isN x'=nx' at *
 cases nx
 ·by_cases hx:x=x'
  ·subst hx
   go_enter Tryz.func26,Tryz.ntmps26
   go_wp2
   go_quiet (fail)
   go_wp2
   all_goals
    go_ret
    refine⟨?_,(Gn w _ _).trans (Gr _ _ _)⟩
    simp[*]
  ·have hxi:((x:Int)==(x':Int))=false:=by rw[beq_eq_false_iff_ne];omega
   go_enter Tryz.func26,Tryz.ntmps26
   go_wp2
   go_quiet (fail)
   go_wp2
   all_goals
    go_ret
    refine⟨?_,(Gn w _ _).trans (Gr _ _ _)⟩
    simp[*]
 ·by_cases hx:x=x'
  ·subst hx
   go_enter Tryz.func26,Tryz.ntmps26
   go_wp2
   go_quiet (fail)
   go_wp2
   all_goals
    go_ret
    refine⟨?_,(Gn w _ _).trans (Gr _ _ _)⟩
    simp[*]
  ·have hxi:((x:Int)==(x':Int))=false:=by rw[beq_eq_false_iff_ne];omega
   cases nx'
   all_goals
    go_enter Tryz.func26,Tryz.ntmps26
    go_wp2
    go_quiet (fail)
    go_wp2
    all_goals
     go_ret
     refine⟨?_,(Gn w _ _).trans (Gr _ _ _)⟩
     simp[*]
end
section
open Go.RowKit FM
theorem q56 (w:World):(binOp .eql 74 (.iface 109 (.agg #[])) (.iface 109 (.agg #[]))).run Tryz.prog w= .ok (.bool true) w:=by kernel_rfl
theorem q57 (w:World):(binOp .eql 74 (.iface 79 (.agg #[])) (.iface 79 (.agg #[]))).run Tryz.prog w= .ok (.bool true) w:=by kernel_rfl
theorem q58 (a b:Bool) (w:World):(binOp .eql 74 (.iface 110 (.bool a)) (.iface 110 (.bool b))).run Tryz.prog w= .ok (.bool (a==b)) w:=by kernel_rfl
theorem q79 (a b:ByteArray) (w:World):(binOp .eql 74 (.iface 111 (.string a)) (.iface 111 (.string b))).run Tryz.prog w= .ok (.bool (a.toList==b.toList)) w:=by
 rw[←beq_toListBytes];kernel_rfl
theorem q81 (a b:Int) (w:World):(binOp .eql 74 (.iface 112 (.int .i64 a)) (.iface 112 (.int .i64 b))).run Tryz.prog w= .ok (.bool (a==b)) w:=by kernel_rfl
theorem q82 (a b:Int) (w:World):(binOp .eql 74 (.iface 113 (.int .i64 a)) (.iface 113 (.int .i64 b))).run Tryz.prog w= .ok (.bool (a==b)) w:=by kernel_rfl
theorem qne (t u:TypeId) (a b:Value) (w:World) (h:t≠u):(binOp .eql 74 (.iface t a) (.iface u b)).run Tryz.prog w= .ok (.bool false) w:=run_eql_iface_types t u a b Tryz.underlying74 h w
attribute [local go_sem] Gy Ds ta56 ta57 ta58 ta59 ta79 ta81 ta82 q56 q57 q58 q79 q81 q82
def tyK (k:Int):TypeId:=if k=1 then 109 else if k=2 then 79 else if k=3 then 110 else if k=4 then 107 else if k=5 then 111 else if k=6 then 112 else 113
def inK (v:VV):Value:=if v.k=1 then .agg #[] else if v.k=2 then .agg #[] else if v.k=3 then .bool v.b else if v.k=4 then .float .f64 v.x else if v.k=5 then .string v.s else .int .i64 v.i
theorem Xo (v:VV):v.ifc= .iface (tyK v.k) (inK v):=by
 unfold VV.ifc tyK inK
 repeat' split
 all_goals rfl
def Ew (cmp:Nat->Nat->Bool) (a b:VV):Bool:=a.k==b.k && (if a.k=4 then cmp a.x b.x else a.b==b.b && a.s.toList==b.s.toList && a.i==b.i)
theorem Yv (x y:Nat) (w:World):
  Calls Tryz.prog 138 #[.iface 107 (.float .f64 x), .iface 107 (.float .f64 y), .func (.func 137) #[] #[]] w fun e w'=>e= .returned (.bool (Lj x y))/\Below w.heap.size w w':=by
 go_enter Tryz.func138,Tryz.ntmps138
 go_wp2_with fail
 refine(same_any x y _).mono ?_
 rintro e w' ⟨rfl,rfl⟩
 go_wp2
 go_ret
 exact⟨rfl,Below.refl _ _⟩
theorem ZcN (t:TypeId) (x:Nat) (b g:Value) (ht:(t=107)=False) (w:World):
  Calls Tryz.prog 138 #[.iface 107 (.float .f64 x), .iface t b,g] w fun e w'=>e= .returned (.bool false)/\Below w.heap.size w w':=by
 go_enter Tryz.func138,Tryz.ntmps138
 go_wp2
 go_ret
 exact⟨rfl,Below.refl _ _⟩
theorem ZcM (t u:TypeId) (a b:Value) (r:Bool) (g:Value) (ht:(t=107)=False) (hr: ∀w,(binOp .eql 74 (.iface t a) (.iface u b)).run Tryz.prog w= .ok (.bool r) w) (w:World):
  Calls Tryz.prog 138 #[.iface t a, .iface u b,g] w fun e w'=>e= .returned (.bool r)/\Below w.heap.size w w':=by
 go_enter Tryz.func138,Tryz.ntmps138
 go_wp2
 go_ret
 exact⟨rfl,Below.refl _ _⟩
theorem qq {r r':Bool} {w:World} {c:Sem Value} (h:c.run Tryz.prog w= .ok (.bool r) w) (e:r=r'):c.run Tryz.prog w= .ok (.bool r') w:=by rw[h,e]
theorem eql_good (cmp:Nat->Nat->Bool) (a b:VV) (ha:a.good=true) (hb:b.good=true) (h4:a.k≠4) (w:World):(binOp .eql 74 a.ifc b.ifc).run Tryz.prog w= .ok (.bool (Ew cmp a b)) w:=by
 obtain⟨k,c,x,s,i⟩:=a
 obtain⟨k',c',x',s',i'⟩:=b
 by_cases hk:k=k'
 ·subst hk
  rcases Eg ha with ⟨rfl,rfl,rfl,rfl,rfl⟩|⟨rfl,rfl,rfl,rfl,rfl⟩|⟨rfl,rfl,rfl,rfl⟩|⟨rfl,rfl,rfl,rfl⟩|⟨rfl,rfl,rfl,rfl, -⟩|⟨rfl,rfl,rfl,rfl, -, -⟩|⟨rfl,rfl,rfl,rfl, -, -⟩
  ·rcases Eg hb with ⟨-,rfl,rfl,rfl,rfl⟩|⟨h, -⟩|⟨h, -⟩|⟨h, -⟩|⟨h, -⟩|⟨h, -⟩|⟨h, -⟩<;>first|(exfalso;dsimp only at h;omega)|exact qq (q56 w) (by simp[Ew])
  ·rcases Eg hb with ⟨h, -⟩|⟨-,rfl,rfl,rfl,rfl⟩|⟨h, -⟩|⟨h, -⟩|⟨h, -⟩|⟨h, -⟩|⟨h, -⟩<;>first|(exfalso;dsimp only at h;omega)|exact qq (q57 w) (by simp[Ew])
  ·rcases Eg hb with ⟨h, -⟩|⟨h, -⟩|⟨-,rfl,rfl,rfl⟩|⟨h, -⟩|⟨h, -⟩|⟨h, -⟩|⟨h, -⟩<;>first|(exfalso;dsimp only at h;omega)|exact qq (q58 c c' w) (by simp[Ew])
  ·exact absurd rfl h4
  ·rcases Eg hb with ⟨h, -⟩|⟨h, -⟩|⟨h, -⟩|⟨h, -⟩|⟨-,rfl,rfl,rfl, -⟩|⟨h, -⟩|⟨h, -⟩<;>first|(exfalso;dsimp only at h;omega)|exact qq (q79 s s' w) (by simp[Ew])
  ·rcases Eg hb with ⟨h, -⟩|⟨h, -⟩|⟨h, -⟩|⟨h, -⟩|⟨h, -⟩|⟨-,rfl,rfl,rfl, -, -⟩|⟨h, -⟩<;>first|(exfalso;dsimp only at h;omega)|exact qq (q81 i i' w) (by simp[Ew])
  ·rcases Eg hb with ⟨h, -⟩|⟨h, -⟩|⟨h, -⟩|⟨h, -⟩|⟨h, -⟩|⟨h, -⟩|⟨-,rfl,rfl,rfl, -, -⟩<;>first|(exfalso;dsimp only at h;omega)|exact qq (q82 i i' w) (by simp[Ew])
 ·rw[Xo,Xo]
  refine qq (qne _ _ _ _ w ?_) ?_
  ·have e1:k=1∨k=2∨k=3∨k=4∨k=5∨k=6∨k=7:=by
    rcases Eg ha with ⟨h, -⟩|⟨h, -⟩|⟨h, -⟩|⟨h, -⟩|⟨h, -⟩|⟨h, -⟩|⟨h, -⟩<;>(dsimp only at h;omega)
   have e2:k'=1∨k'=2∨k'=3∨k'=4∨k'=5∨k'=6∨k'=7:=by
    rcases Eg hb with ⟨h, -⟩|⟨h, -⟩|⟨h, -⟩|⟨h, -⟩|⟨h, -⟩|⟨h, -⟩|⟨h, -⟩<;>(dsimp only at h;omega)
   dsimp only
   rcases e1 with rfl|rfl|rfl|rfl|rfl|rfl|rfl<;>rcases e2 with rfl|rfl|rfl|rfl|rfl|rfl|rfl<;>first|exact absurd rfl hk|decide
  ·unfold Ew
   have:(k==k')=false:=by rw[beq_eq_false_iff_ne];exact hk
   simp[this]
theorem tyK_ne {k:Int} (h:k≠4):(tyK k=107)=False:=by
 unfold tyK
 repeat' split
 all_goals first|contradiction|simp
theorem ZcO (f:FuncId) (cmp:Nat->Nat->Bool) (a b:VV) (ha:a.good=true) (hb:b.good=true)
  (hn: ∀w,Calls Tryz.prog 138 #[.iface 107 (.float .f64 a.x), .iface 107 (.float .f64 b.x), .func (.func f) #[] #[]] w fun e w'=>e= .returned (.bool (cmp a.x b.x))/\Below w.heap.size w w') (w:World):
  Calls Tryz.prog 138 #[a.ifc,b.ifc, .func (.func f) #[] #[]] w fun e w'=>e= .returned (.bool (Ew cmp a b))/\Below w.heap.size w w':=by
 by_cases h4:a.k=4
 ·by_cases k4:b.k=4
  ·have e1:a.ifc= .iface 107 (.float .f64 a.x):=by unfold VV.ifc;rw[h4];rfl
   have e2:b.ifc= .iface 107 (.float .f64 b.x):=by unfold VV.ifc;rw[k4];rfl
   have e3:Ew cmp a b=cmp a.x b.x:=by unfold Ew;simp[h4,k4]
   rw[e1,e2,e3]
   exact hn w
  ·have e1:a.ifc= .iface 107 (.float .f64 a.x):=by unfold VV.ifc;rw[h4];rfl
   have e3:Ew cmp a b=false:=by
    unfold Ew
    have:(a.k==b.k)=false:=by rw[beq_eq_false_iff_ne,h4];exact fun e=>k4 e.symm
    rw[this];rfl
   rw[e1,Xo b,e3]
   exact ZcN _ _ _ _ (tyK_ne k4) w
 ·have he:=eql_good cmp a b ha hb h4
  rw[Xo a,Xo b] at *
  exact ZcM _ _ _ _ _ _ (tyK_ne h4) he w
end
section
open Go.RowKit FM
attribute [local go_sem] Gy Ds
def okE (g:Bool) (r:Bool):Value:= .tuple #[.bool (g && r), .int .i64 (Nl g)]
theorem hold_any (f:FuncId) (cmp:Nat->Nat->Bool) (a b:VV)
  (hn: ∀w,Calls Tryz.prog 138 #[.iface 107 (.float .f64 a.x), .iface 107 (.float .f64 b.x), .func (.func f) #[] #[]] w fun e w'=>e= .returned (.bool (cmp a.x b.x))/\Below w.heap.size w w') (w:World) (hT:Lib.Utf8Tabs 1 2 w):
  Calls Tryz.prog 136 #[a.agg,b.agg, .func (.func f) #[] #[]] w fun e w'=>e= .returned (okE (a.good && b.good) (Ew cmp a b))/\Below w.heap.size w w':=by
 have HT:=Ab hT
 clear hT
 have HI:=Ab (Le a.k a.b a.x a.s a.i)
 have HJ:=Ab (Le b.k b.b b.x b.s b.i)
 have HA:=Ab (fun ha hb=>ZcO f cmp a b ha hb hn)
 clear hn
 have e1:Ke a.k a.b a.x a.s a.i=a.good:=rfl
 have e2:Ke b.k b.b b.x b.s b.i=b.good:=rfl
 rw[e1] at HI
 rw[e2] at HJ
 cases hg:a.good
 ·rw[hg] at HI
  generalize ZbC ⟨a.k,a.b,a.x,a.s,a.i⟩=fa at *
  generalize ZbC ⟨b.k,b.b,b.x,b.s,b.i⟩=fb at *
  generalize b.good=gb at *
  clear HA e1 e2 hg
  generalize Ew cmp a b=r
  obtain⟨k,c,x,s,i⟩:=a
  obtain⟨k',c',x',s',i'⟩:=b
  unfold VV.agg at *
  dsimp only at *
  cases gb
  all_goals
   go_enter Tryz.func136,Tryz.ntmps136
   go_wp2_with fail
   refine(Aa HI _ (Al (Aa HT) (Gn w _ _))).mono ?_
   rintro e w1 ⟨rfl,hb⟩
   have hB:=(Gn w _ _).trans (hb.mono (by simp;omega))
   obtain⟨r0,r1,r2,r3,r4,rf,rl⟩:=Mk (Qn _ (w.heap.size+1) _ _ _ _ _ _ (by simp)) hb
   clear hb
   go_wp2_with fail
   refine(Aa HJ _ (Al (Aa HT) hB)).mono ?_
   rintro e w2 ⟨rfl,hb⟩
   go_wp2
   go_ret2
   exact⟨by simp[okE,Nl],hB.trans (hb.mono hB.size)⟩
 ·rw[hg,Ri (v:=⟨a.k,a.b,a.x,a.s,a.i⟩) hg] at HI
  have e3:VV.ifc ⟨a.k,a.b,a.x,a.s,a.i⟩=a.ifc:=rfl
  rw[e3] at HI
  cases hh:b.good
  ·rw[hh] at HJ
   generalize ZbC ⟨b.k,b.b,b.x,b.s,b.i⟩=fb at *
   clear HA e1 e2 e3 hg hh
   generalize Ew cmp a b=r
   generalize a.ifc=fa at *
   obtain⟨k,c,x,s,i⟩:=a
   obtain⟨k',c',x',s',i'⟩:=b
   unfold VV.agg at *
   dsimp only at *
   go_enter Tryz.func136,Tryz.ntmps136
   go_wp2_with fail
   refine(Aa HI _ (Al (Aa HT) (Gn w _ _))).mono ?_
   rintro e w1 ⟨rfl,hb⟩
   have hB:=(Gn w _ _).trans (hb.mono (by simp;omega))
   obtain⟨r0,r1,r2,r3,r4,rf,rl⟩:=Mk (Qn _ (w.heap.size+1) _ _ _ _ _ _ (by simp)) hb
   clear hb
   go_wp2_with fail
   refine(Aa HJ _ (Al (Aa HT) hB)).mono ?_
   rintro e w2 ⟨rfl,hb⟩
   go_wp2
   go_ret2
   exact⟨by simp[okE,Nl],hB.trans (hb.mono hB.size)⟩
  ·rw[hh,Ri (v:=⟨b.k,b.b,b.x,b.s,b.i⟩) hh] at HJ
   have e4:VV.ifc ⟨b.k,b.b,b.x,b.s,b.i⟩=b.ifc:=rfl
   rw[e4] at HJ
   have HA':=Ab (Aa HA hg hh)
   clear HA e1 e2 e3 e4 hg hh
   generalize Ew cmp a b=r at *
   generalize a.ifc=fa at *
   generalize b.ifc=fb at *
   obtain⟨k,c,x,s,i⟩:=a
   obtain⟨k',c',x',s',i'⟩:=b
   unfold VV.agg at *
   dsimp only at *
   go_enter Tryz.func136,Tryz.ntmps136
   go_wp2_with fail
   refine(Aa HI _ (Al (Aa HT) (Gn w _ _))).mono ?_
   rintro e w1 ⟨rfl,hb⟩
   have hB:=(Gn w _ _).trans (hb.mono (by simp;omega))
   obtain⟨r0,r1,r2,r3,r4,rf,rl⟩:=Mk (Qn _ (w.heap.size+1) _ _ _ _ _ _ (by simp)) hb
   clear hb
   go_wp2_with fail
   refine(Aa HJ _ (Al (Aa HT) hB)).mono ?_
   rintro e w2 ⟨rfl,hb⟩
   have hB2:=hB.trans (hb.mono hB.size)
   clear hb r0 r1 r2 r3 r4 rf rl
   go_wp2_with fail
   refine(Aa HA' _).mono ?_
   rintro e w3 ⟨rfl,hb⟩
   go_wp2
   go_ret2
   exact⟨by simp[okE,Nl],hB2.trans (hb.mono hB2.size)⟩
theorem Oh (a b:VV) (w:World) (hT:Lib.Utf8Tabs 1 2 w):
  Calls Tryz.prog 135 #[a.agg,b.agg] w fun e w'=>e= .returned (okE (a.good && b.good) (Ew Lj a b))/\Below w.heap.size w w':=by
 have HT:=Ab hT
 have HH:=Ab (hold_any 137 Lj a b (Yv a.x b.x))
 clear hT
 unfold okE at *
 generalize (a.good && b.good)=g at *
 generalize Ew Lj a b=r at *
 obtain⟨k,c,x,s,i⟩:=a
 obtain⟨k',c',x',s',i'⟩:=b
 unfold VV.agg at *
 dsimp only at *
 go_enter Tryz.func135,Tryz.ntmps135
 go_wp2_with fail
 refine(Aa HH _ (Al (Aa HT) (Gn w _ _))).mono ?_
 rintro e w1 ⟨rfl,hb⟩
 go_wp2
 go_ret2
 exact⟨rfl,(Gn w _ _).trans (hb.mono (by simp;omega))⟩
end
section
open Go Go.Proofs Go.RowKit FM Tryz
attribute [local go_sem] Ds
def Zaf (v:VV):Bool:=if v.k==1||v.k==7 then v.good else !thV v
def samV (a b:VV):Bool:=if !thV a|| !thV b then thV a==thV b else a.good && b.good && Ew Lj a b
def ZbR (n f:VV):Bool:=thV f && !samV n f
def orV (v a:VV):VV:=if thV v then v else a
def Eh:VV:=⟨1,false,0,ByteArray.empty,0⟩
theorem Qw (v:VV) (hx:v.x<2^64) (w:World) (hT:Lib.Utf8Tabs 1 2 w):Calls prog 117 #[v.agg] w fun e w'=>e= .returned (.bool (Zaf v))/\Below w.heap.size w w':=by
 have HC:=Ab (fun w hT=>Eo v w hT)
 have HV:=Ab (Em v hx)
 have HT:=Ab hT
 clear hT
 unfold Zaf
 have L0:=Lie.new1 w (.V v)
 obtain⟨k,b,x,s,i⟩:=v
 unfold PB.obj VV.obj at L0
 unfold VV.agg Nl at *
 dsimp only at *
 have LL:=Ab L0
 clear L0 hx
 generalize VV.good ⟨k,b,x,s,i⟩=g at *
 generalize thV ⟨k,b,x,s,i⟩=t at *
 by_cases hk:k=1
 ·subst hk
  cases g
  ·go_enter func117,ntmps117
   go_wp2_with (fail)
   refine(Aa HC _ (Al (Aa HT) (Aa LL).below)).mono ?_
   rintro _ w1 ⟨rfl,hb⟩
   replace LL:=Ab ((Aa LL).on hb)
   clear hb
   obtain⟨f0,c0_0,c0_1,c0_2,c0_3,c0_4⟩:=(Aa LL).one
   dsimp only at f0 c0_0 c0_1 c0_2 c0_3 c0_4
   go_wp2_with (fail)
   go_ret
   exact⟨rfl,(Aa LL).below⟩
  ·go_enter func117,ntmps117
   go_wp2_with (fail)
   refine(Aa HC _ (Al (Aa HT) (Aa LL).below)).mono ?_
   rintro _ w1 ⟨rfl,hb⟩
   replace LL:=Ab ((Aa LL).on hb)
   clear hb
   obtain⟨f0,c0_0,c0_1,c0_2,c0_3,c0_4⟩:=(Aa LL).one
   dsimp only at f0 c0_0 c0_1 c0_2 c0_3 c0_4
   go_wp2_with (fail)
   go_ret
   exact⟨rfl,(Aa LL).below⟩
 ·by_cases hk7:k=7
  ·subst hk7
   cases g
   ·go_enter func117,ntmps117
    go_wp2_with (fail)
    refine(Aa HC _ (Al (Aa HT) (Aa LL).below)).mono ?_
    rintro _ w1 ⟨rfl,hb⟩
    replace LL:=Ab ((Aa LL).on hb)
    clear hb
    obtain⟨f0,c0_0,c0_1,c0_2,c0_3,c0_4⟩:=(Aa LL).one
    dsimp only at f0 c0_0 c0_1 c0_2 c0_3 c0_4
    go_wp2_with (fail)
    go_ret
    exact⟨rfl,(Aa LL).below⟩
   ·go_enter func117,ntmps117
    go_wp2_with (fail)
    refine(Aa HC _ (Al (Aa HT) (Aa LL).below)).mono ?_
    rintro _ w1 ⟨rfl,hb⟩
    replace LL:=Ab ((Aa LL).on hb)
    clear hb
    obtain⟨f0,c0_0,c0_1,c0_2,c0_3,c0_4⟩:=(Aa LL).one
    dsimp only at f0 c0_0 c0_1 c0_2 c0_3 c0_4
    go_wp2_with (fail)
    go_ret
    exact⟨rfl,(Aa LL).below⟩
  ·have e1:(k==1)=false:=by simp[hk]
   have e7:(k==7)=false:=by simp[hk7]
   rw[e1,e7]
   go_enter func117,ntmps117
   go_wp2_with (fail)
   refine(Aa HV _).mono ?_
   rintro _ w1 ⟨rfl,hb⟩
   replace LL:=Ab ((Aa LL).on hb)
   clear hb
   obtain⟨f0,c0_0,c0_1,c0_2,c0_3,c0_4⟩:=(Aa LL).one
   dsimp only at f0 c0_0 c0_1 c0_2 c0_3 c0_4
   go_wp2_with (fail)
   go_ret
   exact⟨rfl,(Aa LL).below⟩
theorem Jc (v a:VV) (hx:v.x<2^64) (w:World):Calls prog 127 #[v.agg,a.agg] w fun e w'=>e= .returned (orV v a).agg/\Below w.heap.size w w':=by
 have HV:=Ab (Em v hx)
 unfold orV
 have L0:=Lie.new3 w (.V v) (.V a) (.V zeroV)
 obtain⟨k,b,x,s,i⟩:=v
 obtain⟨k2,b2,x2,s2,i2⟩:=a
 unfold PB.obj VV.obj at L0
 unfold VV.agg at *
 dsimp only at *
 have LL:=Ab L0
 clear L0 hx
 generalize thV ⟨k,b,x,s,i⟩=t at *
 cases t
 ·go_enter func127,ntmps127
  go_wp2_with (fail)
  refine(Aa HV _).mono ?_
  rintro _ w1 ⟨rfl,hb⟩
  replace LL:=Ab ((Aa LL).on hb)
  clear hb
  obtain⟨f0,c0_0,c0_1,c0_2,c0_3,c0_4⟩:=(Aa LL).one
  obtain⟨f1,c1_0,c1_1,c1_2,c1_3,c1_4⟩:=(Aa LL).two
  obtain⟨f2,c2_0,c2_1,c2_2,c2_3,c2_4⟩:=(Aa LL).three
  dsimp only at f0 c0_0 c0_1 c0_2 c0_3 c0_4 f1 c1_0 c1_1 c1_2 c1_3 c1_4 f2 c2_0 c2_1 c2_2 c2_3 c2_4
  go_wp2_with (fail)
  simp[bodyPost,results,Tryz.results127,go_sem,c2_0,c2_1,c2_2,c2_3,c2_4]
  exact set5 (Aa LL).below (by omega)
 ·go_enter func127,ntmps127
  go_wp2_with (fail)
  refine(Aa HV _).mono ?_
  rintro _ w1 ⟨rfl,hb⟩
  replace LL:=Ab ((Aa LL).on hb)
  clear hb
  obtain⟨f0,c0_0,c0_1,c0_2,c0_3,c0_4⟩:=(Aa LL).one
  obtain⟨f1,c1_0,c1_1,c1_2,c1_3,c1_4⟩:=(Aa LL).two
  obtain⟨f2,c2_0,c2_1,c2_2,c2_3,c2_4⟩:=(Aa LL).three
  dsimp only at f0 c0_0 c0_1 c0_2 c0_3 c0_4 f1 c1_0 c1_1 c1_2 c1_3 c1_4 f2 c2_0 c2_1 c2_2 c2_3 c2_4
  go_wp2_with (fail)
  simp[bodyPost,results,Tryz.results127,go_sem,c2_0,c2_1,c2_2,c2_3,c2_4]
  exact set5 (Aa LL).below (by omega)
end
section
open Go Go.Proofs Go.RowKit FM Tryz
theorem Zdt {w X:World} {k:Int} {b1:Bool} {x:Nat} {s:ByteArray} {i:Int} {k2:Int} {b2:Bool} {x2:Nat} {s2:ByteArray} {i2:Int} (h:Lie w X [.V ⟨k,b1,x,s,i⟩, .V ⟨k2,b2,x2,s2,i2⟩]):
  X.cell? ⟨w.heap.size,0,none⟩=some (.int .i64 k)/\X.cell? ⟨w.heap.size,1,none⟩=some (.bool b1)/\X.cell? ⟨w.heap.size,2,none⟩=some (.float .f64 x)/\X.cell? ⟨w.heap.size,3,none⟩=some (.string s)/\X.cell? ⟨w.heap.size,4,none⟩=some (.int .i64 i)/\X.cell? ⟨w.heap.size+1,0,none⟩=some (.int .i64 k2)/\X.cell? ⟨w.heap.size+1,1,none⟩=some (.bool b2)/\X.cell? ⟨w.heap.size+1,2,none⟩=some (.float .f64 x2)/\X.cell? ⟨w.heap.size+1,3,none⟩=some (.string s2)/\X.cell? ⟨w.heap.size+1,4,none⟩=some (.int .i64 i2):=by
 obtain⟨-,a0,a1,a2,a3,a4⟩:=h.one
 obtain⟨-,b0,b1,b2,b3,b4⟩:=h.two
 exact⟨a0,a1,a2,a3,a4,b0,b1,b2,b3,b4⟩
theorem same51 (a b:VV) (ha:a.x<2^64) (hb:b.x<2^64) (w:World) (hT:Lib.Utf8Tabs 1 2 w):Calls prog 134 #[a.agg,b.agg] w fun e w'=>e= .returned (.bool (samV a b))/\Below w.heap.size w w':=by
 have HA:=Ab (Em a ha)
 have HB:=Ab (Em b hb)
 have HS:=Ab (fun w hT=>Oh a b w hT)
 have HT:=Ab hT
 clear hT
 unfold samV
 have L0:=Lie.new2 w (.V a) (.V b)
 obtain⟨k,b1,x,s,i⟩:=a
 obtain⟨k2,b2,x2,s2,i2⟩:=b
 unfold PB.obj VV.obj at L0
 unfold VV.agg okE at *
 dsimp only at *
 have LL:=Ab L0
 clear L0 ha hb
 generalize thV ⟨k,b1,x,s,i⟩=ta at *
 generalize thV ⟨k2,b2,x2,s2,i2⟩=tb at *
 generalize (VV.good ⟨k,b1,x,s,i⟩ && VV.good ⟨k2,b2,x2,s2,i2⟩)=g at *
 generalize Ew Lj ⟨k,b1,x,s,i⟩ ⟨k2,b2,x2,s2,i2⟩=al at *
 cases ta
 ·go_enter func134,ntmps134
  go_wp2_with (fail)
  refine(Aa HA _).mono ?_
  rintro _ w1 ⟨rfl,hb⟩
  replace LL:=Ab ((Aa LL).on hb)
  clear hb
  obtain⟨f0,c0_0,c0_1,c0_2,c0_3,c0_4⟩:=(Aa LL).one
  obtain⟨f1,c1_0,c1_1,c1_2,c1_3,c1_4⟩:=(Aa LL).two
  dsimp only at f0 c0_0 c0_1 c0_2 c0_3 c0_4 f1 c1_0 c1_1 c1_2 c1_3 c1_4
  go_wp2_with (fail)
  go_region_held3 (fun X=>X.cell? ⟨w.heap.size,0,none⟩=some (.int .i64 k)/\X.cell? ⟨w.heap.size,1,none⟩=some (.bool b1)/\X.cell? ⟨w.heap.size,2,none⟩=some (.float .f64 x)/\X.cell? ⟨w.heap.size,3,none⟩=some (.string s)/\X.cell? ⟨w.heap.size,4,none⟩=some (.int .i64 i)/\X.cell? ⟨w.heap.size+1,0,none⟩=some (.int .i64 k2)/\X.cell? ⟨w.heap.size+1,1,none⟩=some (.bool b2)/\X.cell? ⟨w.heap.size+1,2,none⟩=some (.float .f64 x2)/\X.cell? ⟨w.heap.size+1,3,none⟩=some (.string s2)/\X.cell? ⟨w.heap.size+1,4,none⟩=some (.int .i64 i2)) (first|exact Zdt k2|exact Zdt k1|exact Zdt (Aa LL).drew) ((first|(go_at_call_of 116 (Value.string s);refine(Aa HA _).mono ?_;rintro _ w8 ⟨rfl,hb1⟩;have k1:=((Aa LL).drew).on hb1)|(go_at_call_of 116 (Value.string s2);refine(Aa HB _).mono ?_;rintro _ w9 ⟨rfl,hb2⟩;have k2:=k1.on hb2)))
  replace LL:=Ab k2
  clear k1 k2 hb1 hb2
  go_wp2_with (fail)
  go_ret
  exact⟨rfl,(Aa LL).below⟩
 ·cases tb
  ·go_enter func134,ntmps134
   go_wp2_with (fail)
   refine(Aa HA _).mono ?_
   rintro _ w2 ⟨rfl,hb⟩
   replace LL:=Ab ((Aa LL).on hb)
   clear hb
   obtain⟨f0,c0_0,c0_1,c0_2,c0_3,c0_4⟩:=(Aa LL).one
   obtain⟨f1,c1_0,c1_1,c1_2,c1_3,c1_4⟩:=(Aa LL).two
   dsimp only at f0 c0_0 c0_1 c0_2 c0_3 c0_4 f1 c1_0 c1_1 c1_2 c1_3 c1_4
   go_wp2_with (fail)
   refine(Aa HB _).mono ?_
   rintro _ w3 ⟨rfl,hb⟩
   clear f0 c0_0 c0_1 c0_2 c0_3 c0_4 f1 c1_0 c1_1 c1_2 c1_3 c1_4
   replace LL:=Ab ((Aa LL).on hb)
   clear hb
   obtain⟨f0,c0_0,c0_1,c0_2,c0_3,c0_4⟩:=(Aa LL).one
   obtain⟨f1,c1_0,c1_1,c1_2,c1_3,c1_4⟩:=(Aa LL).two
   dsimp only at f0 c0_0 c0_1 c0_2 c0_3 c0_4 f1 c1_0 c1_1 c1_2 c1_3 c1_4
   go_wp2_with (fail)
   go_region_held3 (fun X=>X.cell? ⟨w.heap.size,0,none⟩=some (.int .i64 k)/\X.cell? ⟨w.heap.size,1,none⟩=some (.bool b1)/\X.cell? ⟨w.heap.size,2,none⟩=some (.float .f64 x)/\X.cell? ⟨w.heap.size,3,none⟩=some (.string s)/\X.cell? ⟨w.heap.size,4,none⟩=some (.int .i64 i)/\X.cell? ⟨w.heap.size+1,0,none⟩=some (.int .i64 k2)/\X.cell? ⟨w.heap.size+1,1,none⟩=some (.bool b2)/\X.cell? ⟨w.heap.size+1,2,none⟩=some (.float .f64 x2)/\X.cell? ⟨w.heap.size+1,3,none⟩=some (.string s2)/\X.cell? ⟨w.heap.size+1,4,none⟩=some (.int .i64 i2)) (first|exact Zdt k2|exact Zdt k1|exact Zdt (Aa LL).drew) ((first|(go_at_call_of 116 (Value.string s);refine(Aa HA _).mono ?_;rintro _ w8 ⟨rfl,hb1⟩;have k1:=((Aa LL).drew).on hb1)|(go_at_call_of 116 (Value.string s2);refine(Aa HB _).mono ?_;rintro _ w9 ⟨rfl,hb2⟩;have k2:=k1.on hb2)))
   replace LL:=Ab k2
   clear k1 k2 hb1 hb2
   go_wp2_with (fail)
   go_ret
   exact⟨rfl,(Aa LL).below⟩
  ·go_enter func134,ntmps134
   go_wp2_with (fail)
   refine(Aa HA _).mono ?_
   rintro _ w2 ⟨rfl,hb⟩
   replace LL:=Ab ((Aa LL).on hb)
   clear hb
   obtain⟨f0,c0_0,c0_1,c0_2,c0_3,c0_4⟩:=(Aa LL).one
   obtain⟨f1,c1_0,c1_1,c1_2,c1_3,c1_4⟩:=(Aa LL).two
   dsimp only at f0 c0_0 c0_1 c0_2 c0_3 c0_4 f1 c1_0 c1_1 c1_2 c1_3 c1_4
   go_wp2_with (fail)
   refine(Aa HB _).mono ?_
   rintro _ w3 ⟨rfl,hb⟩
   clear f0 c0_0 c0_1 c0_2 c0_3 c0_4 f1 c1_0 c1_1 c1_2 c1_3 c1_4
   replace LL:=Ab ((Aa LL).on hb)
   clear hb
   obtain⟨f0,c0_0,c0_1,c0_2,c0_3,c0_4⟩:=(Aa LL).one
   obtain⟨f1,c1_0,c1_1,c1_2,c1_3,c1_4⟩:=(Aa LL).two
   dsimp only at f0 c0_0 c0_1 c0_2 c0_3 c0_4 f1 c1_0 c1_1 c1_2 c1_3 c1_4
   go_wp2_with (fail)
   refine(Aa HS _ (Al (Aa HT) (Aa LL).below)).mono ?_
   rintro _ w4 ⟨rfl,hb⟩
   clear f0 c0_0 c0_1 c0_2 c0_3 c0_4 f1 c1_0 c1_1 c1_2 c1_3 c1_4
   replace LL:=Ab ((Aa LL).on hb)
   clear hb
   obtain⟨f0,c0_0,c0_1,c0_2,c0_3,c0_4⟩:=(Aa LL).one
   obtain⟨f1,c1_0,c1_1,c1_2,c1_3,c1_4⟩:=(Aa LL).two
   dsimp only at f0 c0_0 c0_1 c0_2 c0_3 c0_4 f1 c1_0 c1_1 c1_2 c1_3 c1_4
   go_wp2_with (fail)
   go_ret
   exact⟨rfl,(Aa LL).below⟩
theorem No (a b:VV) (ha:a.x<2^64) (hb:b.x<2^64) (w:World) (hT:Lib.Utf8Tabs 1 2 w):Calls prog 131 #[a.agg,b.agg] w fun e w'=>e= .returned (.bool (ZbR a b))/\Below w.heap.size w w':=by
 have HB:=Ab (Em b hb)
 have HS:=Ab (fun w hT=>same51 a b ha hb w hT)
 have HT:=Ab hT
 clear hT
 unfold ZbR
 have L0:=Lie.new2 w (.V a) (.V b)
 obtain⟨k,b1,x,s,i⟩:=a
 obtain⟨k2,b2,x2,s2,i2⟩:=b
 unfold PB.obj VV.obj at L0
 unfold VV.agg at *
 dsimp only at *
 have LL:=Ab L0
 clear L0 ha hb
 generalize thV ⟨k2,b2,x2,s2,i2⟩=tb at *
 generalize samV ⟨k,b1,x,s,i⟩ ⟨k2,b2,x2,s2,i2⟩=sm at *
 cases tb
 ·go_enter func131,ntmps131
  go_wp2_with (fail)
  refine(Aa HB _).mono ?_
  rintro _ w1 ⟨rfl,hb⟩
  replace LL:=Ab ((Aa LL).on hb)
  clear hb
  obtain⟨f0,c0_0,c0_1,c0_2,c0_3,c0_4⟩:=(Aa LL).one
  obtain⟨f1,c1_0,c1_1,c1_2,c1_3,c1_4⟩:=(Aa LL).two
  dsimp only at f0 c0_0 c0_1 c0_2 c0_3 c0_4 f1 c1_0 c1_1 c1_2 c1_3 c1_4
  go_wp2_with (fail)
  go_ret
  exact⟨rfl,(Aa LL).below⟩
 ·go_enter func131,ntmps131
  go_wp2_with (fail)
  refine(Aa HB _).mono ?_
  rintro _ w1 ⟨rfl,hb⟩
  replace LL:=Ab ((Aa LL).on hb)
  clear hb
  obtain⟨f0,c0_0,c0_1,c0_2,c0_3,c0_4⟩:=(Aa LL).one
  obtain⟨f1,c1_0,c1_1,c1_2,c1_3,c1_4⟩:=(Aa LL).two
  dsimp only at f0 c0_0 c0_1 c0_2 c0_3 c0_4 f1 c1_0 c1_1 c1_2 c1_3 c1_4
  go_wp2_with (fail)
  refine(Aa HS _ (Al (Aa HT) (Aa LL).below)).mono ?_
  rintro _ w2 ⟨rfl,hb⟩
  clear f0 c0_0 c0_1 c0_2 c0_3 c0_4 f1 c1_0 c1_1 c1_2 c1_3 c1_4
  replace LL:=Ab ((Aa LL).on hb)
  clear hb
  obtain⟨f0,c0_0,c0_1,c0_2,c0_3,c0_4⟩:=(Aa LL).one
  obtain⟨f1,c1_0,c1_1,c1_2,c1_3,c1_4⟩:=(Aa LL).two
  dsimp only at f0 c0_0 c0_1 c0_2 c0_3 c0_4 f1 c1_0 c1_1 c1_2 c1_3 c1_4
  go_wp2_with (fail)
  go_ret
  exact⟨rfl,(Aa LL).below⟩
end
section
open Go Go.Proofs Go.RowKit FM
def Kt (d:DD):Bool:=(!thV d.v||d.v.good) && Zaf d.g && Zaf d.s && Yy d.w && Yy d.e && Yy d.c
def Gt (d:DD):Int:=if Kt d then Df d else 0
def Qz (d:DD):Bool:=if Gt d==3 then (d.e !=0 && d.c !=0) && thV d.g && thV d.s else if Gt d==2 then (d.e !=0 && d.c !=0) && thV d.v && d.w !=0 else false
theorem Da (d:DD) (hd:FD d) (w:World):Calls Tryz.prog 93 #[d.agg] w fun e w'=>e= .returned (.int .i64 (Df d))/\Below w.heap.size w w':=by
 have HV:=Ab (Em d.v hd.1)
 have HG:=Ab (Em d.g hd.2.1)
 have HS:=Ab (Em d.s hd.2.2)
 clear hd
 have L0:=Lie.new1 w (.D d)
 obtain⟨v,g,s,a,e,c⟩:=d
 unfold Df
 unfold DD.agg
 unfold PB.obj DD.obj at L0
 unfold VV.agg at *
 dsimp only at *
 have LL:=Ab L0
 clear L0
 generalize thV v=tv at *
 generalize thV g=tg at *
 generalize thV s=ts at *
 generalize hq:(a !=0)=q at *
 go_enter Tryz.func93,Tryz.ntmps93
 go_wp2_with (first|(go_at_call 119;refine(Ah _ _).mono ?_;rintro _ _ ⟨rfl,rfl⟩)|(go_at_call 118;refine(Ac _ _).mono ?_;rintro _ _ ⟨rfl,rfl⟩))
 refine(Aa HV _).mono ?_
 rintro _ w1 ⟨rfl,hb⟩
 replace LL:=Ab ((Aa LL).on hb)
 clear hb
 obtain⟨f0,c0_0,c0_1,c0_2,c0_3,c0_4,c0_5,c0_6,c0_7,c0_8,c0_9,c0_10,c0_11,c0_12,c0_13,c0_14,c0_15,c0_16,c0_17⟩:=(Aa LL).one
 dsimp only at f0 c0_0 c0_1 c0_2 c0_3 c0_4 c0_5 c0_6 c0_7 c0_8 c0_9 c0_10 c0_11 c0_12 c0_13 c0_14 c0_15 c0_16 c0_17
 cases tv
 ·cases q
  ·go_wp2_with (first|(go_at_call 119;refine(Ah _ _).mono ?_;rintro _ _ ⟨rfl,rfl⟩)|(go_at_call 118;refine(Ac _ _).mono ?_;rintro _ _ ⟨rfl,rfl⟩))
   refine(Aa HG _).mono ?_
   rintro _ w2 ⟨rfl,hb⟩
   clear f0 c0_0 c0_1 c0_2 c0_3 c0_4 c0_5 c0_6 c0_7 c0_8 c0_9 c0_10 c0_11 c0_12 c0_13 c0_14 c0_15 c0_16 c0_17
   replace LL:=Ab ((Aa LL).on hb)
   clear hb
   obtain⟨f0,c0_0,c0_1,c0_2,c0_3,c0_4,c0_5,c0_6,c0_7,c0_8,c0_9,c0_10,c0_11,c0_12,c0_13,c0_14,c0_15,c0_16,c0_17⟩:=(Aa LL).one
   dsimp only at f0 c0_0 c0_1 c0_2 c0_3 c0_4 c0_5 c0_6 c0_7 c0_8 c0_9 c0_10 c0_11 c0_12 c0_13 c0_14 c0_15 c0_16 c0_17
   cases tg
   ·go_wp2_with (first|(go_at_call 119;refine(Ah _ _).mono ?_;rintro _ _ ⟨rfl,rfl⟩)|(go_at_call 118;refine(Ac _ _).mono ?_;rintro _ _ ⟨rfl,rfl⟩))
    refine(Aa HS _).mono ?_
    rintro _ w3 ⟨rfl,hb⟩
    clear f0 c0_0 c0_1 c0_2 c0_3 c0_4 c0_5 c0_6 c0_7 c0_8 c0_9 c0_10 c0_11 c0_12 c0_13 c0_14 c0_15 c0_16 c0_17
    replace LL:=Ab ((Aa LL).on hb)
    clear hb
    obtain⟨f0,c0_0,c0_1,c0_2,c0_3,c0_4,c0_5,c0_6,c0_7,c0_8,c0_9,c0_10,c0_11,c0_12,c0_13,c0_14,c0_15,c0_16,c0_17⟩:=(Aa LL).one
    dsimp only at f0 c0_0 c0_1 c0_2 c0_3 c0_4 c0_5 c0_6 c0_7 c0_8 c0_9 c0_10 c0_11 c0_12 c0_13 c0_14 c0_15 c0_16 c0_17
    cases ts
    ·go_wp2_with (first|(go_at_call 119;refine(Ah _ _).mono ?_;rintro _ _ ⟨rfl,rfl⟩)|(go_at_call 118;refine(Ac _ _).mono ?_;rintro _ _ ⟨rfl,rfl⟩))
     go_ret
     exact⟨rfl,(Aa LL).below⟩
    ·go_wp2_with (first|(go_at_call 119;refine(Ah _ _).mono ?_;rintro _ _ ⟨rfl,rfl⟩)|(go_at_call 118;refine(Ac _ _).mono ?_;rintro _ _ ⟨rfl,rfl⟩))
     go_ret
     exact⟨rfl,(Aa LL).below⟩
   ·go_wp2_with (first|(go_at_call 119;refine(Ah _ _).mono ?_;rintro _ _ ⟨rfl,rfl⟩)|(go_at_call 118;refine(Ac _ _).mono ?_;rintro _ _ ⟨rfl,rfl⟩))
    go_ret
    exact⟨rfl,(Aa LL).below⟩
  ·go_wp2_with (first|(go_at_call 119;refine(Ah _ _).mono ?_;rintro _ _ ⟨rfl,rfl⟩)|(go_at_call 118;refine(Ac _ _).mono ?_;rintro _ _ ⟨rfl,rfl⟩))
   refine(Aa HG _).mono ?_
   rintro _ w4 ⟨rfl,hb⟩
   clear f0 c0_0 c0_1 c0_2 c0_3 c0_4 c0_5 c0_6 c0_7 c0_8 c0_9 c0_10 c0_11 c0_12 c0_13 c0_14 c0_15 c0_16 c0_17
   replace LL:=Ab ((Aa LL).on hb)
   clear hb
   obtain⟨f0,c0_0,c0_1,c0_2,c0_3,c0_4,c0_5,c0_6,c0_7,c0_8,c0_9,c0_10,c0_11,c0_12,c0_13,c0_14,c0_15,c0_16,c0_17⟩:=(Aa LL).one
   dsimp only at f0 c0_0 c0_1 c0_2 c0_3 c0_4 c0_5 c0_6 c0_7 c0_8 c0_9 c0_10 c0_11 c0_12 c0_13 c0_14 c0_15 c0_16 c0_17
   cases tg
   ·go_wp2_with (first|(go_at_call 119;refine(Ah _ _).mono ?_;rintro _ _ ⟨rfl,rfl⟩)|(go_at_call 118;refine(Ac _ _).mono ?_;rintro _ _ ⟨rfl,rfl⟩))
    refine(Aa HS _).mono ?_
    rintro _ w5 ⟨rfl,hb⟩
    clear f0 c0_0 c0_1 c0_2 c0_3 c0_4 c0_5 c0_6 c0_7 c0_8 c0_9 c0_10 c0_11 c0_12 c0_13 c0_14 c0_15 c0_16 c0_17
    replace LL:=Ab ((Aa LL).on hb)
    clear hb
    obtain⟨f0,c0_0,c0_1,c0_2,c0_3,c0_4,c0_5,c0_6,c0_7,c0_8,c0_9,c0_10,c0_11,c0_12,c0_13,c0_14,c0_15,c0_16,c0_17⟩:=(Aa LL).one
    dsimp only at f0 c0_0 c0_1 c0_2 c0_3 c0_4 c0_5 c0_6 c0_7 c0_8 c0_9 c0_10 c0_11 c0_12 c0_13 c0_14 c0_15 c0_16 c0_17
    cases ts
    ·go_wp2_with (first|(go_at_call 119;refine(Ah _ _).mono ?_;rintro _ _ ⟨rfl,rfl⟩)|(go_at_call 118;refine(Ac _ _).mono ?_;rintro _ _ ⟨rfl,rfl⟩))
     go_ret
     exact⟨rfl,(Aa LL).below⟩
    ·go_wp2_with (first|(go_at_call 119;refine(Ah _ _).mono ?_;rintro _ _ ⟨rfl,rfl⟩)|(go_at_call 118;refine(Ac _ _).mono ?_;rintro _ _ ⟨rfl,rfl⟩))
     go_ret
     exact⟨rfl,(Aa LL).below⟩
   ·go_wp2_with (first|(go_at_call 119;refine(Ah _ _).mono ?_;rintro _ _ ⟨rfl,rfl⟩)|(go_at_call 118;refine(Ac _ _).mono ?_;rintro _ _ ⟨rfl,rfl⟩))
    go_ret
    exact⟨rfl,(Aa LL).below⟩
 ·go_wp2_with (first|(go_at_call 119;refine(Ah _ _).mono ?_;rintro _ _ ⟨rfl,rfl⟩)|(go_at_call 118;refine(Ac _ _).mono ?_;rintro _ _ ⟨rfl,rfl⟩))
  refine(Aa HG _).mono ?_
  rintro _ w6 ⟨rfl,hb⟩
  clear f0 c0_0 c0_1 c0_2 c0_3 c0_4 c0_5 c0_6 c0_7 c0_8 c0_9 c0_10 c0_11 c0_12 c0_13 c0_14 c0_15 c0_16 c0_17
  replace LL:=Ab ((Aa LL).on hb)
  clear hb
  obtain⟨f0,c0_0,c0_1,c0_2,c0_3,c0_4,c0_5,c0_6,c0_7,c0_8,c0_9,c0_10,c0_11,c0_12,c0_13,c0_14,c0_15,c0_16,c0_17⟩:=(Aa LL).one
  dsimp only at f0 c0_0 c0_1 c0_2 c0_3 c0_4 c0_5 c0_6 c0_7 c0_8 c0_9 c0_10 c0_11 c0_12 c0_13 c0_14 c0_15 c0_16 c0_17
  cases tg
  ·go_wp2_with (first|(go_at_call 119;refine(Ah _ _).mono ?_;rintro _ _ ⟨rfl,rfl⟩)|(go_at_call 118;refine(Ac _ _).mono ?_;rintro _ _ ⟨rfl,rfl⟩))
   refine(Aa HS _).mono ?_
   rintro _ w7 ⟨rfl,hb⟩
   clear f0 c0_0 c0_1 c0_2 c0_3 c0_4 c0_5 c0_6 c0_7 c0_8 c0_9 c0_10 c0_11 c0_12 c0_13 c0_14 c0_15 c0_16 c0_17
   replace LL:=Ab ((Aa LL).on hb)
   clear hb
   obtain⟨f0,c0_0,c0_1,c0_2,c0_3,c0_4,c0_5,c0_6,c0_7,c0_8,c0_9,c0_10,c0_11,c0_12,c0_13,c0_14,c0_15,c0_16,c0_17⟩:=(Aa LL).one
   dsimp only at f0 c0_0 c0_1 c0_2 c0_3 c0_4 c0_5 c0_6 c0_7 c0_8 c0_9 c0_10 c0_11 c0_12 c0_13 c0_14 c0_15 c0_16 c0_17
   cases ts
   ·go_wp2_with (first|(go_at_call 119;refine(Ah _ _).mono ?_;rintro _ _ ⟨rfl,rfl⟩)|(go_at_call 118;refine(Ac _ _).mono ?_;rintro _ _ ⟨rfl,rfl⟩))
    go_ret
    exact⟨rfl,(Aa LL).below⟩
   ·go_wp2_with (first|(go_at_call 119;refine(Ah _ _).mono ?_;rintro _ _ ⟨rfl,rfl⟩)|(go_at_call 118;refine(Ac _ _).mono ?_;rintro _ _ ⟨rfl,rfl⟩))
    go_ret
    exact⟨rfl,(Aa LL).below⟩
  ·go_wp2_with (first|(go_at_call 119;refine(Ah _ _).mono ?_;rintro _ _ ⟨rfl,rfl⟩)|(go_at_call 118;refine(Ac _ _).mono ?_;rintro _ _ ⟨rfl,rfl⟩))
   go_ret
   exact⟨rfl,(Aa LL).below⟩
theorem ZdC (d:DD) (hd:FD d) (w:World) (hT:Lib.Utf8Tabs 1 2 w):Calls Tryz.prog 92 #[d.agg] w fun e w'=>e= .returned (.bool (Kt d))/\Below w.heap.size w w':=by
 have HV:=Ab (Em d.v hd.1)
 have HC:=Ab (fun w hT=>Eo d.v w hT)
 have HG:=Ab (fun w hT=>Qw d.g hd.2.1 w hT)
 have HS:=Ab (fun w hT=>Qw d.s hd.2.2 w hT)
 have HT:=Ab hT
 clear hd hT
 have L0:=Lie.new1 w (.D d)
 obtain⟨v,g,s,a,e,c⟩:=d
 unfold Kt
 unfold DD.agg
 unfold PB.obj DD.obj at L0
 unfold VV.agg at *
 dsimp only at *
 have LL:=Ab L0
 clear L0
 unfold Nl at HC
 generalize thV v=tv at *
 generalize VV.good v=gv at *
 generalize Zaf g=cg at *
 generalize Zaf s=cs at *
 generalize hta:Yy a=ta at *
 generalize hte:Yy e=te at *
 generalize htc:Yy c=tc at *
 go_enter Tryz.func92,Tryz.ntmps92
 go_wp2_with (first|(go_at_call 119;refine(Ah _ _).mono ?_;rintro _ _ ⟨rfl,rfl⟩)|(go_at_call 118;refine(Ac _ _).mono ?_;rintro _ _ ⟨rfl,rfl⟩))
 refine(Aa HV _).mono ?_
 rintro _ w1 ⟨rfl,hb⟩
 replace LL:=Ab ((Aa LL).on hb)
 clear hb
 obtain⟨f0,c0_0,c0_1,c0_2,c0_3,c0_4,c0_5,c0_6,c0_7,c0_8,c0_9,c0_10,c0_11,c0_12,c0_13,c0_14,c0_15,c0_16,c0_17⟩:=(Aa LL).one
 dsimp only at f0 c0_0 c0_1 c0_2 c0_3 c0_4 c0_5 c0_6 c0_7 c0_8 c0_9 c0_10 c0_11 c0_12 c0_13 c0_14 c0_15 c0_16 c0_17
 cases tv
 ·go_wp2_with (first|(go_at_call 119;refine(Ah _ _).mono ?_;rintro _ _ ⟨rfl,rfl⟩)|(go_at_call 118;refine(Ac _ _).mono ?_;rintro _ _ ⟨rfl,rfl⟩))
  refine(Aa HG _ (Al (Aa HT) (Aa LL).below)).mono ?_
  rintro _ w2 ⟨rfl,hb⟩
  clear f0 c0_0 c0_1 c0_2 c0_3 c0_4 c0_5 c0_6 c0_7 c0_8 c0_9 c0_10 c0_11 c0_12 c0_13 c0_14 c0_15 c0_16 c0_17
  replace LL:=Ab ((Aa LL).on hb)
  clear hb
  obtain⟨f0,c0_0,c0_1,c0_2,c0_3,c0_4,c0_5,c0_6,c0_7,c0_8,c0_9,c0_10,c0_11,c0_12,c0_13,c0_14,c0_15,c0_16,c0_17⟩:=(Aa LL).one
  dsimp only at f0 c0_0 c0_1 c0_2 c0_3 c0_4 c0_5 c0_6 c0_7 c0_8 c0_9 c0_10 c0_11 c0_12 c0_13 c0_14 c0_15 c0_16 c0_17
  cases cg
  ·go_wp2_with (first|(go_at_call 119;refine(Ah _ _).mono ?_;rintro _ _ ⟨rfl,rfl⟩)|(go_at_call 118;refine(Ac _ _).mono ?_;rintro _ _ ⟨rfl,rfl⟩))
   go_ret
   exact⟨rfl,(Aa LL).below⟩
  ·go_wp2_with (first|(go_at_call 119;refine(Ah _ _).mono ?_;rintro _ _ ⟨rfl,rfl⟩)|(go_at_call 118;refine(Ac _ _).mono ?_;rintro _ _ ⟨rfl,rfl⟩))
   refine(Aa HS _ (Al (Aa HT) (Aa LL).below)).mono ?_
   rintro _ w3 ⟨rfl,hb⟩
   clear f0 c0_0 c0_1 c0_2 c0_3 c0_4 c0_5 c0_6 c0_7 c0_8 c0_9 c0_10 c0_11 c0_12 c0_13 c0_14 c0_15 c0_16 c0_17
   replace LL:=Ab ((Aa LL).on hb)
   clear hb
   obtain⟨f0,c0_0,c0_1,c0_2,c0_3,c0_4,c0_5,c0_6,c0_7,c0_8,c0_9,c0_10,c0_11,c0_12,c0_13,c0_14,c0_15,c0_16,c0_17⟩:=(Aa LL).one
   dsimp only at f0 c0_0 c0_1 c0_2 c0_3 c0_4 c0_5 c0_6 c0_7 c0_8 c0_9 c0_10 c0_11 c0_12 c0_13 c0_14 c0_15 c0_16 c0_17
   cases cs
   ·go_wp2_with (first|(go_at_call 119;refine(Ah _ _).mono ?_;rintro _ _ ⟨rfl,rfl⟩)|(go_at_call 118;refine(Ac _ _).mono ?_;rintro _ _ ⟨rfl,rfl⟩))
    go_ret
    exact⟨rfl,(Aa LL).below⟩
   ·cases ta
    ·go_wp2_with (first|(go_at_call 119;refine(Ah _ _).mono ?_;rintro _ _ ⟨rfl,rfl⟩)|(go_at_call 118;refine(Ac _ _).mono ?_;rintro _ _ ⟨rfl,rfl⟩))
     go_ret
     exact⟨rfl,(Aa LL).below⟩
    ·cases te
     ·go_wp2_with (first|(go_at_call 119;refine(Ah _ _).mono ?_;rintro _ _ ⟨rfl,rfl⟩)|(go_at_call 118;refine(Ac _ _).mono ?_;rintro _ _ ⟨rfl,rfl⟩))
      go_ret
      exact⟨rfl,(Aa LL).below⟩
     ·go_wp2_with (first|(go_at_call 119;refine(Ah _ _).mono ?_;rintro _ _ ⟨rfl,rfl⟩)|(go_at_call 118;refine(Ac _ _).mono ?_;rintro _ _ ⟨rfl,rfl⟩))
      go_ret
      exact⟨rfl,(Aa LL).below⟩
 ·go_wp2_with (first|(go_at_call 119;refine(Ah _ _).mono ?_;rintro _ _ ⟨rfl,rfl⟩)|(go_at_call 118;refine(Ac _ _).mono ?_;rintro _ _ ⟨rfl,rfl⟩))
  refine(Aa HC _ (Al (Aa HT) (Aa LL).below)).mono ?_
  rintro _ w4 ⟨rfl,hb⟩
  clear f0 c0_0 c0_1 c0_2 c0_3 c0_4 c0_5 c0_6 c0_7 c0_8 c0_9 c0_10 c0_11 c0_12 c0_13 c0_14 c0_15 c0_16 c0_17
  replace LL:=Ab ((Aa LL).on hb)
  clear hb
  obtain⟨f0,c0_0,c0_1,c0_2,c0_3,c0_4,c0_5,c0_6,c0_7,c0_8,c0_9,c0_10,c0_11,c0_12,c0_13,c0_14,c0_15,c0_16,c0_17⟩:=(Aa LL).one
  dsimp only at f0 c0_0 c0_1 c0_2 c0_3 c0_4 c0_5 c0_6 c0_7 c0_8 c0_9 c0_10 c0_11 c0_12 c0_13 c0_14 c0_15 c0_16 c0_17
  cases gv
  ·go_wp2_with (first|(go_at_call 119;refine(Ah _ _).mono ?_;rintro _ _ ⟨rfl,rfl⟩)|(go_at_call 118;refine(Ac _ _).mono ?_;rintro _ _ ⟨rfl,rfl⟩))
   go_ret
   exact⟨rfl,(Aa LL).below⟩
  ·go_wp2_with (first|(go_at_call 119;refine(Ah _ _).mono ?_;rintro _ _ ⟨rfl,rfl⟩)|(go_at_call 118;refine(Ac _ _).mono ?_;rintro _ _ ⟨rfl,rfl⟩))
   refine(Aa HG _ (Al (Aa HT) (Aa LL).below)).mono ?_
   rintro _ w5 ⟨rfl,hb⟩
   clear f0 c0_0 c0_1 c0_2 c0_3 c0_4 c0_5 c0_6 c0_7 c0_8 c0_9 c0_10 c0_11 c0_12 c0_13 c0_14 c0_15 c0_16 c0_17
   replace LL:=Ab ((Aa LL).on hb)
   clear hb
   obtain⟨f0,c0_0,c0_1,c0_2,c0_3,c0_4,c0_5,c0_6,c0_7,c0_8,c0_9,c0_10,c0_11,c0_12,c0_13,c0_14,c0_15,c0_16,c0_17⟩:=(Aa LL).one
   dsimp only at f0 c0_0 c0_1 c0_2 c0_3 c0_4 c0_5 c0_6 c0_7 c0_8 c0_9 c0_10 c0_11 c0_12 c0_13 c0_14 c0_15 c0_16 c0_17
   cases cg
   ·go_wp2_with (first|(go_at_call 119;refine(Ah _ _).mono ?_;rintro _ _ ⟨rfl,rfl⟩)|(go_at_call 118;refine(Ac _ _).mono ?_;rintro _ _ ⟨rfl,rfl⟩))
    go_ret
    exact⟨rfl,(Aa LL).below⟩
   ·go_wp2_with (first|(go_at_call 119;refine(Ah _ _).mono ?_;rintro _ _ ⟨rfl,rfl⟩)|(go_at_call 118;refine(Ac _ _).mono ?_;rintro _ _ ⟨rfl,rfl⟩))
    refine(Aa HS _ (Al (Aa HT) (Aa LL).below)).mono ?_
    rintro _ w6 ⟨rfl,hb⟩
    clear f0 c0_0 c0_1 c0_2 c0_3 c0_4 c0_5 c0_6 c0_7 c0_8 c0_9 c0_10 c0_11 c0_12 c0_13 c0_14 c0_15 c0_16 c0_17
    replace LL:=Ab ((Aa LL).on hb)
    clear hb
    obtain⟨f0,c0_0,c0_1,c0_2,c0_3,c0_4,c0_5,c0_6,c0_7,c0_8,c0_9,c0_10,c0_11,c0_12,c0_13,c0_14,c0_15,c0_16,c0_17⟩:=(Aa LL).one
    dsimp only at f0 c0_0 c0_1 c0_2 c0_3 c0_4 c0_5 c0_6 c0_7 c0_8 c0_9 c0_10 c0_11 c0_12 c0_13 c0_14 c0_15 c0_16 c0_17
    cases cs
    ·go_wp2_with (first|(go_at_call 119;refine(Ah _ _).mono ?_;rintro _ _ ⟨rfl,rfl⟩)|(go_at_call 118;refine(Ac _ _).mono ?_;rintro _ _ ⟨rfl,rfl⟩))
     go_ret
     exact⟨rfl,(Aa LL).below⟩
    ·cases ta
     ·go_wp2_with (first|(go_at_call 119;refine(Ah _ _).mono ?_;rintro _ _ ⟨rfl,rfl⟩)|(go_at_call 118;refine(Ac _ _).mono ?_;rintro _ _ ⟨rfl,rfl⟩))
      go_ret
      exact⟨rfl,(Aa LL).below⟩
     ·cases te
      ·go_wp2_with (first|(go_at_call 119;refine(Ah _ _).mono ?_;rintro _ _ ⟨rfl,rfl⟩)|(go_at_call 118;refine(Ac _ _).mono ?_;rintro _ _ ⟨rfl,rfl⟩))
       go_ret
       exact⟨rfl,(Aa LL).below⟩
      ·go_wp2_with (first|(go_at_call 119;refine(Ah _ _).mono ?_;rintro _ _ ⟨rfl,rfl⟩)|(go_at_call 118;refine(Ac _ _).mono ?_;rintro _ _ ⟨rfl,rfl⟩))
       go_ret
       exact⟨rfl,(Aa LL).below⟩
end
section
open Go Go.Proofs Go.RowKit FM Tryz
def DD.cs (d:DD):List Value:= [.int .i64 d.v.k, .bool d.v.b, .float .f64 d.v.x, .string d.v.s, .int .i64 d.v.i, .int .i64 d.g.k, .bool d.g.b, .float .f64 d.g.x, .string d.g.s, .int .i64 d.g.i, .int .i64 d.s.k, .bool d.s.b, .float .f64 d.s.x, .string d.s.s, .int .i64 d.s.i, .int .i64 d.w, .int .i64 d.e, .int .i64 d.c]
def VV.cs (d:VV):List Value:= [.int .i64 d.k, .bool d.b, .float .f64 d.x, .string d.s, .int .i64 d.i]
theorem Lies.range {W:World} {B:Nat} {d:DD} (h:Lies W B d):W.rangeAt B 0 [.int .i64 d.v.k, .bool d.v.b, .float .f64 d.v.x, .string d.v.s, .int .i64 d.v.i, .int .i64 d.g.k, .bool d.g.b, .float .f64 d.g.x, .string d.g.s, .int .i64 d.g.i, .int .i64 d.s.k, .bool d.s.b, .float .f64 d.s.x, .string d.s.s, .int .i64 d.s.i, .int .i64 d.w, .int .i64 d.e, .int .i64 d.c]:=by
 intro j v hv
 obtain⟨-,h0,h1,h2,h3,h4,h5,h6,h7,h8,h9,h10,h11,h12,h13,h14,h15,h16,h17⟩:=h
 match j,hv with
 |0,hv=>exact(Option.some.inj hv)▸h0
 |1,hv=>exact(Option.some.inj hv)▸h1
 |2,hv=>exact(Option.some.inj hv)▸h2
 |3,hv=>exact(Option.some.inj hv)▸h3
 |4,hv=>exact(Option.some.inj hv)▸h4
 |5,hv=>exact(Option.some.inj hv)▸h5
 |6,hv=>exact(Option.some.inj hv)▸h6
 |7,hv=>exact(Option.some.inj hv)▸h7
 |8,hv=>exact(Option.some.inj hv)▸h8
 |9,hv=>exact(Option.some.inj hv)▸h9
 |10,hv=>exact(Option.some.inj hv)▸h10
 |11,hv=>exact(Option.some.inj hv)▸h11
 |12,hv=>exact(Option.some.inj hv)▸h12
 |13,hv=>exact(Option.some.inj hv)▸h13
 |14,hv=>exact(Option.some.inj hv)▸h14
 |15,hv=>exact(Option.some.inj hv)▸h15
 |16,hv=>exact(Option.some.inj hv)▸h16
 |17,hv=>exact(Option.some.inj hv)▸h17
 |_+18,hv=>exact absurd hv (by simp)
theorem Lies.rv {W:World} {B:Nat} {d:DD} (h:Lies W B d):W.rangeAt B 0 [.int .i64 d.v.k, .bool d.v.b, .float .f64 d.v.x, .string d.v.s, .int .i64 d.v.i]:=by
 intro j v hv
 obtain⟨-,h0,h1,h2,h3,h4,h5,h6,h7,h8,h9,h10,h11,h12,h13,h14,h15,h16,h17⟩:=h
 match j,hv with
 |0,hv=>exact(Option.some.inj hv)▸h0
 |1,hv=>exact(Option.some.inj hv)▸h1
 |2,hv=>exact(Option.some.inj hv)▸h2
 |3,hv=>exact(Option.some.inj hv)▸h3
 |4,hv=>exact(Option.some.inj hv)▸h4
 |_+5,hv=>exact absurd hv (by simp)
theorem Lies.rg {W:World} {B:Nat} {d:DD} (h:Lies W B d):W.rangeAt B 5 [.int .i64 d.g.k, .bool d.g.b, .float .f64 d.g.x, .string d.g.s, .int .i64 d.g.i]:=by
 intro j v hv
 obtain⟨-,h0,h1,h2,h3,h4,h5,h6,h7,h8,h9,h10,h11,h12,h13,h14,h15,h16,h17⟩:=h
 match j,hv with
 |0,hv=>exact(Option.some.inj hv)▸h5
 |1,hv=>exact(Option.some.inj hv)▸h6
 |2,hv=>exact(Option.some.inj hv)▸h7
 |3,hv=>exact(Option.some.inj hv)▸h8
 |4,hv=>exact(Option.some.inj hv)▸h9
 |_+5,hv=>exact absurd hv (by simp)
theorem Lies.rs {W:World} {B:Nat} {d:DD} (h:Lies W B d):W.rangeAt B 10 [.int .i64 d.s.k, .bool d.s.b, .float .f64 d.s.x, .string d.s.s, .int .i64 d.s.i]:=by
 intro j v hv
 obtain⟨-,h0,h1,h2,h3,h4,h5,h6,h7,h8,h9,h10,h11,h12,h13,h14,h15,h16,h17⟩:=h
 match j,hv with
 |0,hv=>exact(Option.some.inj hv)▸h10
 |1,hv=>exact(Option.some.inj hv)▸h11
 |2,hv=>exact(Option.some.inj hv)▸h12
 |3,hv=>exact(Option.some.inj hv)▸h13
 |4,hv=>exact(Option.some.inj hv)▸h14
 |_+5,hv=>exact absurd hv (by simp)
theorem Rh:(prog.info? 48).map (·.size)=some 18:=by kernel_rfl
theorem Uy: ∃d,prog.underlying 48=some d/\d.isRow=true:=⟨_,underlying48,rfl⟩
theorem Oa:(prog.info? 26).map (·.size)=some 5:=by kernel_rfl
theorem Nz: ∃d,prog.underlying 26=some d/\d.isRow=true:=⟨_,underlying26,rfl⟩
theorem Av {ops:Array Oper} {rest:List Oper} {o:Oper} {a:Act} {w:World} {Q:Exit->Act->World->Prop} {x:Operand} {b:Nat} {d:DD} (hw:Region.wanted o (yielded ops a.tmps)=true) (ho:o.op= .load 48 x)
  (hx:a.eval x= .pointer (some ⟨b,0,none⟩)) (hc:Lies w b d) (h:wpList prog ops Q rest (a.put o.dst d.agg) w):wpList prog ops Q (o::rest) a w:=by
 obtain⟨t,hu,hd⟩:=Uy
 refine BigFrame.wpList_want hw fun K hK=> ?_
 exact wp_load_mid 48 x ho b 0 hx _ t hc.range hu hd Rh (hK _ _ h)
theorem Be {ops:Array Oper} {rest:List Oper} {o:Oper} {a:Act} {w:World} {Q:Exit->Act->World->Prop} {x:Operand} {b:Nat} {d:DD} (hw:Region.wanted o (yielded ops a.tmps)=true) (ho:o.op= .load 26 x)
  (hx:a.eval x= .pointer (some ⟨b,0,none⟩)) (hc:Lies w b d) (h:wpList prog ops Q rest (a.put o.dst d.v.agg) w):wpList prog ops Q (o::rest) a w:=by
 obtain⟨t,hu,hd⟩:=Nz
 refine BigFrame.wpList_want hw fun K hK=> ?_
 exact wp_load_mid 26 x ho b 0 hx _ t hc.rv hu hd Oa (hK _ _ h)
theorem Bg {ops:Array Oper} {rest:List Oper} {o:Oper} {a:Act} {w:World} {Q:Exit->Act->World->Prop} {x:Operand} {b:Nat} {d:DD} (hw:Region.wanted o (yielded ops a.tmps)=true) (ho:o.op= .load 26 x)
  (hx:a.eval x= .pointer (some ⟨b,5,none⟩)) (hc:Lies w b d) (h:wpList prog ops Q rest (a.put o.dst d.g.agg) w):wpList prog ops Q (o::rest) a w:=by
 obtain⟨t,hu,hd⟩:=Nz
 refine BigFrame.wpList_want hw fun K hK=> ?_
 exact wp_load_mid 26 x ho b 5 hx _ t hc.rg hu hd Oa (hK _ _ h)
theorem Bf {ops:Array Oper} {rest:List Oper} {o:Oper} {a:Act} {w:World} {Q:Exit->Act->World->Prop} {x:Operand} {b:Nat} {d:DD} (hw:Region.wanted o (yielded ops a.tmps)=true) (ho:o.op= .load 26 x)
  (hx:a.eval x= .pointer (some ⟨b,10,none⟩)) (hc:Lies w b d) (h:wpList prog ops Q rest (a.put o.dst d.s.agg) w):wpList prog ops Q (o::rest) a w:=by
 obtain⟨t,hu,hd⟩:=Nz
 refine BigFrame.wpList_want hw fun K hK=> ?_
 exact wp_load_mid 26 x ho b 10 hx _ t hc.rs hu hd Oa (hK _ _ h)
theorem Az {ops:Array Oper} {rest:List Oper} {o:Oper} {a:Act} {w:World} {Q:Exit->Act->World->Prop} {x:Operand} {b:Nat} {d:DD} (hw:Region.wanted o (yielded ops a.tmps)=true) (ho:o.op= .load 46 x)
  (hx:a.eval x= .pointer (some ⟨b,15,none⟩)) (hc:Lies w b d) (h:wpList prog ops Q rest (a.put o.dst (.int .i64 d.w)) w):wpList prog ops Q (o::rest) a w:=by
 obtain⟨-,h0,h1,h2,h3,h4,h5,h6,h7,h8,h9,h10,h11,h12,h13,h14,h15,h16,h17⟩:=hc
 refine BigFrame.wpList_want hw fun K hK=> ?_
 unfold Oper.wp execOp
 simp only[ho,hx]
 simp[go_sem,h15,isAgg46]
 exact hK _ _ h
theorem Ay {ops:Array Oper} {rest:List Oper} {o:Oper} {a:Act} {w:World} {Q:Exit->Act->World->Prop} {x:Operand} {b:Nat} {d:DD} (hw:Region.wanted o (yielded ops a.tmps)=true) (ho:o.op= .load 46 x)
  (hx:a.eval x= .pointer (some ⟨b,16,none⟩)) (hc:Lies w b d) (h:wpList prog ops Q rest (a.put o.dst (.int .i64 d.e)) w):wpList prog ops Q (o::rest) a w:=by
 obtain⟨-,h0,h1,h2,h3,h4,h5,h6,h7,h8,h9,h10,h11,h12,h13,h14,h15,h16,h17⟩:=hc
 refine BigFrame.wpList_want hw fun K hK=> ?_
 unfold Oper.wp execOp
 simp only[ho,hx]
 simp[go_sem,h16,isAgg46]
 exact hK _ _ h
theorem Au {ops:Array Oper} {rest:List Oper} {o:Oper} {a:Act} {w:World} {Q:Exit->Act->World->Prop} {x:Operand} {b:Nat} {d:DD} (hw:Region.wanted o (yielded ops a.tmps)=true) (ho:o.op= .load 46 x)
  (hx:a.eval x= .pointer (some ⟨b,17,none⟩)) (hc:Lies w b d) (h:wpList prog ops Q rest (a.put o.dst (.int .i64 d.c)) w):wpList prog ops Q (o::rest) a w:=by
 obtain⟨-,h0,h1,h2,h3,h4,h5,h6,h7,h8,h9,h10,h11,h12,h13,h14,h15,h16,h17⟩:=hc
 refine BigFrame.wpList_want hw fun K hK=> ?_
 unfold Oper.wp execOp
 simp only[ho,hx]
 simp[go_sem,h17,isAgg46]
 exact hK _ _ h
