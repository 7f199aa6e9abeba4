import Derived.Test.YtfefpbjkbmaicaaGreatDoorQl
import Derived.Test.YtfefpbjkbmaicaaGreatDoorQk
import Derived.Stop.Asserts
set_option linter.all false
namespace Go.Proofs.YtfefpbjkbmaicaaGreatDoor
set_option maxRecDepth 100000
set_option maxHeartbeats 0
section
open Go.RowKit FM
theorem q56 (w:World):(binOp .eql 129 (.iface 154 (.agg #[])) (.iface 154 (.agg #[]))).run Tryz.prog w= .ok (.bool true) w:=by kernel_rfl
theorem q57 (w:World):(binOp .eql 129 (.iface 155 (.agg #[])) (.iface 155 (.agg #[]))).run Tryz.prog w= .ok (.bool true) w:=by kernel_rfl
theorem q58 (a b:Bool) (w:World):(binOp .eql 129 (.iface 156 (.bool a)) (.iface 156 (.bool b))).run Tryz.prog w= .ok (.bool (a==b)) w:=by kernel_rfl
theorem q79 (a b:ByteArray) (w:World):(binOp .eql 129 (.iface 157 (.string a)) (.iface 157 (.string b))).run Tryz.prog w= .ok (.bool (a.toList==b.toList)) w:=by
 rw[←beq_toListBytes];kernel_rfl
theorem q81 (a b:Int) (w:World):(binOp .eql 129 (.iface 158 (.int .i64 a)) (.iface 158 (.int .i64 b))).run Tryz.prog w= .ok (.bool (a==b)) w:=by kernel_rfl
theorem q82 (a b:Int) (w:World):(binOp .eql 129 (.iface 159 (.int .i64 a)) (.iface 159 (.int .i64 b))).run Tryz.prog w= .ok (.bool (a==b)) w:=by kernel_rfl
theorem qne (t u:TypeId) (a b:Value) (w:World) (h:t≠u):(binOp .eql 129 (.iface t a) (.iface u b)).run Tryz.prog w= .ok (.bool false) w:=run_eql_iface_types t u a b Tryz.underlying129 h w
attribute [local go_sem] Gx Dt ta56 ta57 ta58 ta59 ta79 ta81 ta82 q56 q57 q58 q79 q81 q82
def tyK (k:Int):TypeId:=if k=1 then 154 else if k=2 then 155 else if k=3 then 156 else if k=4 then 138 else if k=5 then 157 else if k=6 then 158 else 159
def inK (v:VV):Value:=if v.k=1 then .agg #[] else if v.k=2 then .agg #[] else if v.k=3 then .bool v.b else if v.k=4 then .float .f64 v.x else if v.k=5 then .string v.s else .int .i64 v.i
theorem Uc (v:VV):v.ifc= .iface (tyK v.k) (inK v):=by
 unfold VV.ifc tyK inK
 repeat' split
 all_goals rfl
def Gc (cmp:Nat->Nat->Bool) (a b:VV):Bool:=a.k==b.k && (if a.k=4 then cmp a.x b.x else a.b==b.b && a.s.toList==b.s.toList && a.i==b.i)
theorem Us (x y:Nat) (w:World):
  Calls Tryz.prog 134 #[.iface 138 (.float .f64 x), .iface 138 (.float .f64 y), .func (.func 133) #[] #[]] w fun e w'=>e= .returned (.bool (Kw x y))/\Below w.heap.size w w':=by
 go_enter Tryz.func134,Tryz.ntmps134
 go_wp2_with fail
 refine(same_any x y _).mono ?_
 rintro e w' ⟨rfl,rfl⟩
 go_wp2
 go_ret
 exact⟨rfl,Below.refl _ _⟩
theorem Zbe (t:TypeId) (x:Nat) (b g:Value) (ht:(t=138)=False) (w:World):
  Calls Tryz.prog 134 #[.iface 138 (.float .f64 x), .iface t b,g] w fun e w'=>e= .returned (.bool false)/\Below w.heap.size w w':=by
 go_enter Tryz.func134,Tryz.ntmps134
 go_wp2
 go_ret
 exact⟨rfl,Below.refl _ _⟩
theorem Zbd (t u:TypeId) (a b:Value) (r:Bool) (g:Value) (ht:(t=138)=False) (hr: ∀w,(binOp .eql 129 (.iface t a) (.iface u b)).run Tryz.prog w= .ok (.bool r) w) (w:World):
  Calls Tryz.prog 134 #[.iface t a, .iface u b,g] w fun e w'=>e= .returned (.bool r)/\Below w.heap.size w w':=by
 go_enter Tryz.func134,Tryz.ntmps134
 go_wp2
 go_ret
 exact⟨rfl,Below.refl _ _⟩
theorem qq {r r':Bool} {w:World} {c:Sem Value} (h:c.run Tryz.prog w= .ok (.bool r) w) (e:r=r'):c.run Tryz.prog w= .ok (.bool r') w:=by rw[h,e]
theorem eql_good (cmp:Nat->Nat->Bool) (a b:VV) (ha:a.good=true) (hb:b.good=true) (h4:a.k≠4) (w:World):(binOp .eql 129 a.ifc b.ifc).run Tryz.prog w= .ok (.bool (Gc cmp a b)) w:=by
 obtain⟨k,c,x,s,i⟩:=a
 obtain⟨k',c',x',s',i'⟩:=b
 by_cases hk:k=k'
 ·subst hk
  rcases Ek ha with ⟨rfl,rfl,rfl,rfl,rfl⟩|⟨rfl,rfl,rfl,rfl,rfl⟩|⟨rfl,rfl,rfl,rfl⟩|⟨rfl,rfl,rfl,rfl⟩|⟨rfl,rfl,rfl,rfl, -⟩|⟨rfl,rfl,rfl,rfl, -, -⟩|⟨rfl,rfl,rfl,rfl, -, -⟩
  ·rcases Ek hb with ⟨-,rfl,rfl,rfl,rfl⟩|⟨h, -⟩|⟨h, -⟩|⟨h, -⟩|⟨h, -⟩|⟨h, -⟩|⟨h, -⟩<;>first|(exfalso;dsimp only at h;omega)|exact qq (q56 w) (by simp[Gc])
  ·rcases Ek hb with ⟨h, -⟩|⟨-,rfl,rfl,rfl,rfl⟩|⟨h, -⟩|⟨h, -⟩|⟨h, -⟩|⟨h, -⟩|⟨h, -⟩<;>first|(exfalso;dsimp only at h;omega)|exact qq (q57 w) (by simp[Gc])
  ·rcases Ek hb with ⟨h, -⟩|⟨h, -⟩|⟨-,rfl,rfl,rfl⟩|⟨h, -⟩|⟨h, -⟩|⟨h, -⟩|⟨h, -⟩<;>first|(exfalso;dsimp only at h;omega)|exact qq (q58 c c' w) (by simp[Gc])
  ·exact absurd rfl h4
  ·rcases Ek hb with ⟨h, -⟩|⟨h, -⟩|⟨h, -⟩|⟨h, -⟩|⟨-,rfl,rfl,rfl, -⟩|⟨h, -⟩|⟨h, -⟩<;>first|(exfalso;dsimp only at h;omega)|exact qq (q79 s s' w) (by simp[Gc])
  ·rcases Ek hb with ⟨h, -⟩|⟨h, -⟩|⟨h, -⟩|⟨h, -⟩|⟨h, -⟩|⟨-,rfl,rfl,rfl, -, -⟩|⟨h, -⟩<;>first|(exfalso;dsimp only at h;omega)|exact qq (q81 i i' w) (by simp[Gc])
  ·rcases Ek hb with ⟨h, -⟩|⟨h, -⟩|⟨h, -⟩|⟨h, -⟩|⟨h, -⟩|⟨h, -⟩|⟨-,rfl,rfl,rfl, -, -⟩<;>first|(exfalso;dsimp only at h;omega)|exact qq (q82 i i' w) (by simp[Gc])
 ·rw[Uc,Uc]
  refine qq (qne _ _ _ _ w ?_) ?_
  ·have e1:k=1∨k=2∨k=3∨k=4∨k=5∨k=6∨k=7:=by
    rcases Ek ha with ⟨h, -⟩|⟨h, -⟩|⟨h, -⟩|⟨h, -⟩|⟨h, -⟩|⟨h, -⟩|⟨h, -⟩<;>(dsimp only at h;omega)
   have e2:k'=1∨k'=2∨k'=3∨k'=4∨k'=5∨k'=6∨k'=7:=by
    rcases Ek hb with ⟨h, -⟩|⟨h, -⟩|⟨h, -⟩|⟨h, -⟩|⟨h, -⟩|⟨h, -⟩|⟨h, -⟩<;>(dsimp only at h;omega)
   dsimp only
   rcases e1 with rfl|rfl|rfl|rfl|rfl|rfl|rfl<;>rcases e2 with rfl|rfl|rfl|rfl|rfl|rfl|rfl<;>first|exact absurd rfl hk|decide
  ·unfold Gc
   have:(k==k')=false:=by rw[beq_eq_false_iff_ne];exact hk
   simp[this]
theorem tyK_ne {k:Int} (h:k≠4):(tyK k=138)=False:=by
 unfold tyK
 repeat' split
 all_goals first|contradiction|simp
theorem Zbf (f:FuncId) (cmp:Nat->Nat->Bool) (a b:VV) (ha:a.good=true) (hb:b.good=true)
  (hn: ∀w,Calls Tryz.prog 134 #[.iface 138 (.float .f64 a.x), .iface 138 (.float .f64 b.x), .func (.func f) #[] #[]] w fun e w'=>e= .returned (.bool (cmp a.x b.x))/\Below w.heap.size w w') (w:World):
  Calls Tryz.prog 134 #[a.ifc,b.ifc, .func (.func f) #[] #[]] w fun e w'=>e= .returned (.bool (Gc cmp a b))/\Below w.heap.size w w':=by
 by_cases h4:a.k=4
 ·by_cases k4:b.k=4
  ·have e1:a.ifc= .iface 138 (.float .f64 a.x):=by unfold VV.ifc;rw[h4];rfl
   have e2:b.ifc= .iface 138 (.float .f64 b.x):=by unfold VV.ifc;rw[k4];rfl
   have e3:Gc cmp a b=cmp a.x b.x:=by unfold Gc;simp[h4,k4]
   rw[e1,e2,e3]
   exact hn w
  ·have e1:a.ifc= .iface 138 (.float .f64 a.x):=by unfold VV.ifc;rw[h4];rfl
   have e3:Gc cmp a b=false:=by
    unfold Gc
    have:(a.k==b.k)=false:=by rw[beq_eq_false_iff_ne,h4];exact fun e=>k4 e.symm
    rw[this];rfl
   rw[e1,Uc b,e3]
   exact Zbe _ _ _ _ (tyK_ne k4) w
 ·have he:=eql_good cmp a b ha hb h4
  rw[Uc a,Uc b] at *
  exact Zbd _ _ _ _ _ _ (tyK_ne h4) he w
end
section
open Go.RowKit FM
attribute [local go_sem] Gx Dt
def okE (g:Bool) (r:Bool):Value:= .tuple #[.bool (g && r), .int .i64 (Ql g)]
theorem hold_any (f:FuncId) (cmp:Nat->Nat->Bool) (a b:VV)
  (hn: ∀w,Calls Tryz.prog 134 #[.iface 138 (.float .f64 a.x), .iface 138 (.float .f64 b.x), .func (.func f) #[] #[]] w fun e w'=>e= .returned (.bool (cmp a.x b.x))/\Below w.heap.size w w') (w:World) (hT:Lib.Utf8Tabs 4 5 w):
  Calls Tryz.prog 132 #[a.agg,b.agg, .func (.func f) #[] #[]] w fun e w'=>e= .returned (okE (a.good && b.good) (Gc cmp a b))/\Below w.heap.size w w':=by
 have HT:=Ac hT
 clear hT
 have HI:=Ac (Kk a.k a.b a.x a.s a.i)
 have HJ:=Ac (Kk b.k b.b b.x b.s b.i)
 have HA:=Ac (fun ha hb=>Zbf f cmp a b ha hb hn)
 clear hn
 have e1:Ef a.k a.b a.x a.s a.i=a.good:=rfl
 have e2:Ef b.k b.b b.x b.s b.i=b.good:=rfl
 rw[e1] at HI
 rw[e2] at HJ
 cases hg:a.good
 ·rw[hg] at HI
  generalize Zad ⟨a.k,a.b,a.x,a.s,a.i⟩=fa at *
  generalize Zad ⟨b.k,b.b,b.x,b.s,b.i⟩=fb at *
  generalize b.good=gb at *
  clear HA e1 e2 hg
  generalize Gc cmp a b=r
  obtain⟨k,c,x,s,i⟩:=a
  obtain⟨k',c',x',s',i'⟩:=b
  unfold VV.agg at *
  dsimp only at *
  cases gb
  all_goals
   go_enter Tryz.func132,Tryz.ntmps132
   go_wp2_with fail
   refine(Aa HI _ (Bf (Aa HT) (Gy w _ _))).mono ?_
   rintro e w1 ⟨rfl,hb⟩
   have hB:=(Gy w _ _).trans (hb.mono (by simp;omega))
   obtain⟨r0,r1,r2,r3,r4,rf,rl⟩:=Mf (Pt _ (w.heap.size+1) _ _ _ _ _ _ (by simp)) hb
   clear hb
   go_wp2_with fail
   refine(Aa HJ _ (Bf (Aa HT) hB)).mono ?_
   rintro e w2 ⟨rfl,hb⟩
   go_wp2
   go_ret2
   exact⟨by simp[okE,Ql],hB.trans (hb.mono hB.size)⟩
 ·rw[hg,Qi (v:=⟨a.k,a.b,a.x,a.s,a.i⟩) hg] at HI
  have e3:VV.ifc ⟨a.k,a.b,a.x,a.s,a.i⟩=a.ifc:=rfl
  rw[e3] at HI
  cases hh:b.good
  ·rw[hh] at HJ
   generalize Zad ⟨b.k,b.b,b.x,b.s,b.i⟩=fb at *
   clear HA e1 e2 e3 hg hh
   generalize Gc cmp a b=r
   generalize a.ifc=fa at *
   obtain⟨k,c,x,s,i⟩:=a
   obtain⟨k',c',x',s',i'⟩:=b
   unfold VV.agg at *
   dsimp only at *
   go_enter Tryz.func132,Tryz.ntmps132
   go_wp2_with fail
   refine(Aa HI _ (Bf (Aa HT) (Gy w _ _))).mono ?_
   rintro e w1 ⟨rfl,hb⟩
   have hB:=(Gy w _ _).trans (hb.mono (by simp;omega))
   obtain⟨r0,r1,r2,r3,r4,rf,rl⟩:=Mf (Pt _ (w.heap.size+1) _ _ _ _ _ _ (by simp)) hb
   clear hb
   go_wp2_with fail
   refine(Aa HJ _ (Bf (Aa HT) hB)).mono ?_
   rintro e w2 ⟨rfl,hb⟩
   go_wp2
   go_ret2
   exact⟨by simp[okE,Ql],hB.trans (hb.mono hB.size)⟩
  ·rw[hh,Qi (v:=⟨b.k,b.b,b.x,b.s,b.i⟩) hh] at HJ
   have e4:VV.ifc ⟨b.k,b.b,b.x,b.s,b.i⟩=b.ifc:=rfl
   rw[e4] at HJ
   have HA':=Ac (Aa HA hg hh)
   clear HA e1 e2 e3 e4 hg hh
   generalize Gc cmp a b=r at *
   generalize a.ifc=fa at *
   generalize b.ifc=fb at *
   obtain⟨k,c,x,s,i⟩:=a
   obtain⟨k',c',x',s',i'⟩:=b
   unfold VV.agg at *
   dsimp only at *
   go_enter Tryz.func132,Tryz.ntmps132
   go_wp2_with fail
   refine(Aa HI _ (Bf (Aa HT) (Gy w _ _))).mono ?_
   rintro e w1 ⟨rfl,hb⟩
   have hB:=(Gy w _ _).trans (hb.mono (by simp;omega))
   obtain⟨r0,r1,r2,r3,r4,rf,rl⟩:=Mf (Pt _ (w.heap.size+1) _ _ _ _ _ _ (by simp)) hb
   clear hb
   go_wp2_with fail
   refine(Aa HJ _ (Bf (Aa HT) hB)).mono ?_
   rintro e w2 ⟨rfl,hb⟩
   have hB2:=hB.trans (hb.mono hB.size)
   clear hb r0 r1 r2 r3 r4 rf rl
   go_wp2_with fail
   refine(Aa HA' _).mono ?_
   rintro e w3 ⟨rfl,hb⟩
   go_wp2
   go_ret2
   exact⟨by simp[okE,Ql],hB2.trans (hb.mono hB2.size)⟩
theorem Uu (a b:VV) (w:World) (hT:Lib.Utf8Tabs 4 5 w):
  Calls Tryz.prog 131 #[a.agg,b.agg] w fun e w'=>e= .returned (okE (a.good && b.good) (Gc Kw a b))/\Below w.heap.size w w':=by
 have HT:=Ac hT
 have HH:=Ac (hold_any 133 Kw a b (Us a.x b.x))
 clear hT
 unfold okE at *
 generalize (a.good && b.good)=g at *
 generalize Gc Kw a b=r at *
 obtain⟨k,c,x,s,i⟩:=a
 obtain⟨k',c',x',s',i'⟩:=b
 unfold VV.agg at *
 dsimp only at *
 go_enter Tryz.func131,Tryz.ntmps131
 go_wp2_with fail
 refine(Aa HH _ (Bf (Aa HT) (Gy w _ _))).mono ?_
 rintro e w1 ⟨rfl,hb⟩
 go_wp2
 go_ret2
 exact⟨rfl,(Gy w _ _).trans (hb.mono (by simp;omega))⟩
end
section
open Go Go.Proofs Go.RowKit FM Tryz
attribute [local go_sem] Dt
def Kf (v:VV):Bool:=if v.k==1||v.k==7 then v.good else !thV v
def Ml (v:VV):Bool:=v.good && (v.k==1||v.k==7)
def samV (a b:VV):Bool:=if !thV a|| !thV b then thV a==thV b else a.good && b.good && Gc Kw a b
def Zat (n f:VV):Bool:=thV f && !samV n f
def orV (v a:VV):VV:=if thV v then v else a
def Ea:VV:=⟨1,false,0,ByteArray.empty,0⟩
theorem Py (v:VV) (hx:v.x<2^64) (w:World) (hT:Lib.Utf8Tabs 4 5 w):Calls prog 98 #[v.agg] w fun e w'=>e= .returned (.bool (Kf v))/\Below w.heap.size w w':=by
 have HC:=Ac (fun w hT=>Jf v w hT)
 have HV:=Ac (Ey v hx)
 have HT:=Ac hT
 clear hT
 unfold Kf
 have L0:=Lie.new1 w (.V v)
 obtain⟨k,b,x,s,i⟩:=v
 unfold PB.obj VV.obj at L0
 unfold VV.agg Ql at *
 dsimp only at *
 have LL:=Ac L0
 clear L0 hx
 generalize VV.good ⟨k,b,x,s,i⟩=g at *
 generalize thV ⟨k,b,x,s,i⟩=t at *
 by_cases hk:k=1
 ·subst hk
  cases g
  ·go_enter func98,ntmps98
   go_wp2_with (fail)
   refine(Aa HC _ (Bf (Aa HT) (Aa LL).below)).mono ?_
   rintro _ w1 ⟨rfl,hb⟩
   replace LL:=Ac ((Aa LL).on hb)
   clear hb
   obtain⟨f0,c0_0,c0_1,c0_2,c0_3,c0_4⟩:=(Aa LL).one
   dsimp only at f0 c0_0 c0_1 c0_2 c0_3 c0_4
   go_wp2_with (fail)
   go_ret
   exact⟨rfl,(Aa LL).below⟩
  ·go_enter func98,ntmps98
   go_wp2_with (fail)
   refine(Aa HC _ (Bf (Aa HT) (Aa LL).below)).mono ?_
   rintro _ w1 ⟨rfl,hb⟩
   replace LL:=Ac ((Aa LL).on hb)
   clear hb
   obtain⟨f0,c0_0,c0_1,c0_2,c0_3,c0_4⟩:=(Aa LL).one
   dsimp only at f0 c0_0 c0_1 c0_2 c0_3 c0_4
   go_wp2_with (fail)
   go_ret
   exact⟨rfl,(Aa LL).below⟩
 ·by_cases hk7:k=7
  ·subst hk7
   cases g
   ·go_enter func98,ntmps98
    go_wp2_with (fail)
    refine(Aa HC _ (Bf (Aa HT) (Aa LL).below)).mono ?_
    rintro _ w1 ⟨rfl,hb⟩
    replace LL:=Ac ((Aa LL).on hb)
    clear hb
    obtain⟨f0,c0_0,c0_1,c0_2,c0_3,c0_4⟩:=(Aa LL).one
    dsimp only at f0 c0_0 c0_1 c0_2 c0_3 c0_4
    go_wp2_with (fail)
    go_ret
    exact⟨rfl,(Aa LL).below⟩
   ·go_enter func98,ntmps98
    go_wp2_with (fail)
    refine(Aa HC _ (Bf (Aa HT) (Aa LL).below)).mono ?_
    rintro _ w1 ⟨rfl,hb⟩
    replace LL:=Ac ((Aa LL).on hb)
    clear hb
    obtain⟨f0,c0_0,c0_1,c0_2,c0_3,c0_4⟩:=(Aa LL).one
    dsimp only at f0 c0_0 c0_1 c0_2 c0_3 c0_4
    go_wp2_with (fail)
    go_ret
    exact⟨rfl,(Aa LL).below⟩
  ·have e1:(k==1)=false:=by simp[hk]
   have e7:(k==7)=false:=by simp[hk7]
   rw[e1,e7]
   go_enter func98,ntmps98
   go_wp2_with (fail)
   refine(Aa HV _).mono ?_
   rintro _ w1 ⟨rfl,hb⟩
   replace LL:=Ac ((Aa LL).on hb)
   clear hb
   obtain⟨f0,c0_0,c0_1,c0_2,c0_3,c0_4⟩:=(Aa LL).one
   dsimp only at f0 c0_0 c0_1 c0_2 c0_3 c0_4
   go_wp2_with (fail)
   go_ret
   exact⟨rfl,(Aa LL).below⟩
theorem Qq (v:VV) (hx:v.x<2^64) (w:World):Calls prog 71 #[v.agg] w fun e w'=>e= .returned (.bool (Ml v))/\Below w.heap.size w w':=by
 have HC:=Ac (Qr v hx)
 unfold Ml
 have L0:=Lie.new1 w (.V v)
 obtain⟨k,b,x,s,i⟩:=v
 unfold PB.obj VV.obj at L0
 unfold VV.agg at *
 dsimp only at *
 have LL:=Ac L0
 clear L0 hx
 generalize VV.good ⟨k,b,x,s,i⟩=g at *
 cases g
 ·go_enter func71,ntmps71
  go_wp2_with (fail)
  refine(Aa HC _).mono ?_
  rintro _ w1 ⟨rfl,hb⟩
  replace LL:=Ac ((Aa LL).on hb)
  clear hb
  obtain⟨f0,c0_0,c0_1,c0_2,c0_3,c0_4⟩:=(Aa LL).one
  dsimp only at f0 c0_0 c0_1 c0_2 c0_3 c0_4
  go_wp2_with (fail)
  go_ret
  exact⟨rfl,(Aa LL).below⟩
 ·by_cases hk:k=1
  ·subst hk
   go_enter func71,ntmps71
   go_wp2_with (fail)
   refine(Aa HC _).mono ?_
   rintro _ w1 ⟨rfl,hb⟩
   replace LL:=Ac ((Aa LL).on hb)
   clear hb
   obtain⟨f0,c0_0,c0_1,c0_2,c0_3,c0_4⟩:=(Aa LL).one
   dsimp only at f0 c0_0 c0_1 c0_2 c0_3 c0_4
   go_wp2_with (fail)
   go_ret
   exact⟨rfl,(Aa LL).below⟩
  ·have e1:(k==1)=false:=by simp[hk]
   rw[e1]
   go_enter func71,ntmps71
   go_wp2_with (fail)
   refine(Aa HC _).mono ?_
   rintro _ w1 ⟨rfl,hb⟩
   replace LL:=Ac ((Aa LL).on hb)
   clear hb
   obtain⟨f0,c0_0,c0_1,c0_2,c0_3,c0_4⟩:=(Aa LL).one
   dsimp only at f0 c0_0 c0_1 c0_2 c0_3 c0_4
   go_wp2_with (fail)
   go_ret
   exact⟨rfl,(Aa LL).below⟩
theorem Jc (v a:VV) (hx:v.x<2^64) (w:World):Calls prog 121 #[v.agg,a.agg] w fun e w'=>e= .returned (orV v a).agg/\Below w.heap.size w w':=by
 have HV:=Ac (Ey v hx)
 unfold orV
 have L0:=Lie.new3 w (.V v) (.V a) (.V Bz)
 obtain⟨k,b,x,s,i⟩:=v
 obtain⟨k2,b2,x2,s2,i2⟩:=a
 unfold PB.obj VV.obj at L0
 unfold VV.agg at *
 dsimp only at *
 have LL:=Ac L0
 clear L0 hx
 generalize thV ⟨k,b,x,s,i⟩=t at *
 cases t
 ·go_enter func121,ntmps121
  go_wp2_with (fail)
  refine(Aa HV _).mono ?_
  rintro _ w1 ⟨rfl,hb⟩
  replace LL:=Ac ((Aa LL).on hb)
  clear hb
  obtain⟨f0,c0_0,c0_1,c0_2,c0_3,c0_4⟩:=(Aa LL).one
  obtain⟨f1,c1_0,c1_1,c1_2,c1_3,c1_4⟩:=(Aa LL).two
  obtain⟨f2,c2_0,c2_1,c2_2,c2_3,c2_4⟩:=(Aa LL).three
  dsimp only at f0 c0_0 c0_1 c0_2 c0_3 c0_4 f1 c1_0 c1_1 c1_2 c1_3 c1_4 f2 c2_0 c2_1 c2_2 c2_3 c2_4
  go_wp2_with (fail)
  simp[bodyPost,results,Tryz.results121,go_sem,c2_0,c2_1,c2_2,c2_3,c2_4]
  exact set5 (Aa LL).below (by omega)
 ·go_enter func121,ntmps121
  go_wp2_with (fail)
  refine(Aa HV _).mono ?_
  rintro _ w1 ⟨rfl,hb⟩
  replace LL:=Ac ((Aa LL).on hb)
  clear hb
  obtain⟨f0,c0_0,c0_1,c0_2,c0_3,c0_4⟩:=(Aa LL).one
  obtain⟨f1,c1_0,c1_1,c1_2,c1_3,c1_4⟩:=(Aa LL).two
  obtain⟨f2,c2_0,c2_1,c2_2,c2_3,c2_4⟩:=(Aa LL).three
  dsimp only at f0 c0_0 c0_1 c0_2 c0_3 c0_4 f1 c1_0 c1_1 c1_2 c1_3 c1_4 f2 c2_0 c2_1 c2_2 c2_3 c2_4
  go_wp2_with (fail)
  simp[bodyPost,results,Tryz.results121,go_sem,c2_0,c2_1,c2_2,c2_3,c2_4]
  exact set5 (Aa LL).below (by omega)
end
section
open Go Go.Proofs Go.RowKit FM Tryz
theorem ZbS {w X:World} {k:Int} {b1:Bool} {x:Nat} {s:ByteArray} {i:Int} {k2:Int} {b2:Bool} {x2:Nat} {s2:ByteArray} {i2:Int} (h:Lie w X [.V ⟨k,b1,x,s,i⟩, .V ⟨k2,b2,x2,s2,i2⟩]):
  X.cell? ⟨w.heap.size,0,none⟩=some (.int .i64 k)/\X.cell? ⟨w.heap.size,1,none⟩=some (.bool b1)/\X.cell? ⟨w.heap.size,2,none⟩=some (.float .f64 x)/\X.cell? ⟨w.heap.size,3,none⟩=some (.string s)/\X.cell? ⟨w.heap.size,4,none⟩=some (.int .i64 i)/\X.cell? ⟨w.heap.size+1,0,none⟩=some (.int .i64 k2)/\X.cell? ⟨w.heap.size+1,1,none⟩=some (.bool b2)/\X.cell? ⟨w.heap.size+1,2,none⟩=some (.float .f64 x2)/\X.cell? ⟨w.heap.size+1,3,none⟩=some (.string s2)/\X.cell? ⟨w.heap.size+1,4,none⟩=some (.int .i64 i2):=by
 obtain⟨-,a0,a1,a2,a3,a4⟩:=h.one
 obtain⟨-,b0,b1,b2,b3,b4⟩:=h.two
 exact⟨a0,a1,a2,a3,a4,b0,b1,b2,b3,b4⟩
theorem same51 (a b:VV) (ha:a.x<2^64) (hb:b.x<2^64) (w:World) (hT:Lib.Utf8Tabs 4 5 w):Calls prog 129 #[a.agg,b.agg] w fun e w'=>e= .returned (.bool (samV a b))/\Below w.heap.size w w':=by
 have HA:=Ac (Ey a ha)
 have HB:=Ac (Ey b hb)
 have HS:=Ac (fun w hT=>Uu a b w hT)
 have HT:=Ac hT
 clear hT
 unfold samV
 have L0:=Lie.new2 w (.V a) (.V b)
 obtain⟨k,b1,x,s,i⟩:=a
 obtain⟨k2,b2,x2,s2,i2⟩:=b
 unfold PB.obj VV.obj at L0
 unfold VV.agg okE at *
 dsimp only at *
 have LL:=Ac L0
 clear L0 ha hb
 generalize thV ⟨k,b1,x,s,i⟩=ta at *
 generalize thV ⟨k2,b2,x2,s2,i2⟩=tb at *
 generalize (VV.good ⟨k,b1,x,s,i⟩ && VV.good ⟨k2,b2,x2,s2,i2⟩)=g at *
 generalize Gc Kw ⟨k,b1,x,s,i⟩ ⟨k2,b2,x2,s2,i2⟩=al at *
 cases ta
 ·go_enter func129,ntmps129
  go_wp2_with (fail)
  refine(Aa HA _).mono ?_
  rintro _ w1 ⟨rfl,hb⟩
  replace LL:=Ac ((Aa LL).on hb)
  clear hb
  obtain⟨f0,c0_0,c0_1,c0_2,c0_3,c0_4⟩:=(Aa LL).one
  obtain⟨f1,c1_0,c1_1,c1_2,c1_3,c1_4⟩:=(Aa LL).two
  dsimp only at f0 c0_0 c0_1 c0_2 c0_3 c0_4 f1 c1_0 c1_1 c1_2 c1_3 c1_4
  go_wp2_with (fail)
  go_region_held3 (fun X=>X.cell? ⟨w.heap.size,0,none⟩=some (.int .i64 k)/\X.cell? ⟨w.heap.size,1,none⟩=some (.bool b1)/\X.cell? ⟨w.heap.size,2,none⟩=some (.float .f64 x)/\X.cell? ⟨w.heap.size,3,none⟩=some (.string s)/\X.cell? ⟨w.heap.size,4,none⟩=some (.int .i64 i)/\X.cell? ⟨w.heap.size+1,0,none⟩=some (.int .i64 k2)/\X.cell? ⟨w.heap.size+1,1,none⟩=some (.bool b2)/\X.cell? ⟨w.heap.size+1,2,none⟩=some (.float .f64 x2)/\X.cell? ⟨w.heap.size+1,3,none⟩=some (.string s2)/\X.cell? ⟨w.heap.size+1,4,none⟩=some (.int .i64 i2)) (first|exact ZbS k2|exact ZbS k1|exact ZbS (Aa LL).drew) ((first|(go_at_call_of 97 (Value.string s);refine(Aa HA _).mono ?_;rintro _ w8 ⟨rfl,hb1⟩;have k1:=((Aa LL).drew).on hb1)|(go_at_call_of 97 (Value.string s2);refine(Aa HB _).mono ?_;rintro _ w9 ⟨rfl,hb2⟩;have k2:=k1.on hb2)))
  replace LL:=Ac k2
  clear k1 k2 hb1 hb2
  go_wp2_with (fail)
  go_ret
  exact⟨rfl,(Aa LL).below⟩
 ·cases tb
  ·go_enter func129,ntmps129
   go_wp2_with (fail)
   refine(Aa HA _).mono ?_
   rintro _ w2 ⟨rfl,hb⟩
   replace LL:=Ac ((Aa LL).on hb)
   clear hb
   obtain⟨f0,c0_0,c0_1,c0_2,c0_3,c0_4⟩:=(Aa LL).one
   obtain⟨f1,c1_0,c1_1,c1_2,c1_3,c1_4⟩:=(Aa LL).two
   dsimp only at f0 c0_0 c0_1 c0_2 c0_3 c0_4 f1 c1_0 c1_1 c1_2 c1_3 c1_4
   go_wp2_with (fail)
   refine(Aa HB _).mono ?_
   rintro _ w3 ⟨rfl,hb⟩
   clear f0 c0_0 c0_1 c0_2 c0_3 c0_4 f1 c1_0 c1_1 c1_2 c1_3 c1_4
   replace LL:=Ac ((Aa LL).on hb)
   clear hb
   obtain⟨f0,c0_0,c0_1,c0_2,c0_3,c0_4⟩:=(Aa LL).one
   obtain⟨f1,c1_0,c1_1,c1_2,c1_3,c1_4⟩:=(Aa LL).two
   dsimp only at f0 c0_0 c0_1 c0_2 c0_3 c0_4 f1 c1_0 c1_1 c1_2 c1_3 c1_4
   go_wp2_with (fail)
   go_region_held3 (fun X=>X.cell? ⟨w.heap.size,0,none⟩=some (.int .i64 k)/\X.cell? ⟨w.heap.size,1,none⟩=some (.bool b1)/\X.cell? ⟨w.heap.size,2,none⟩=some (.float .f64 x)/\X.cell? ⟨w.heap.size,3,none⟩=some (.string s)/\X.cell? ⟨w.heap.size,4,none⟩=some (.int .i64 i)/\X.cell? ⟨w.heap.size+1,0,none⟩=some (.int .i64 k2)/\X.cell? ⟨w.heap.size+1,1,none⟩=some (.bool b2)/\X.cell? ⟨w.heap.size+1,2,none⟩=some (.float .f64 x2)/\X.cell? ⟨w.heap.size+1,3,none⟩=some (.string s2)/\X.cell? ⟨w.heap.size+1,4,none⟩=some (.int .i64 i2)) (first|exact ZbS k2|exact ZbS k1|exact ZbS (Aa LL).drew) ((first|(go_at_call_of 97 (Value.string s);refine(Aa HA _).mono ?_;rintro _ w8 ⟨rfl,hb1⟩;have k1:=((Aa LL).drew).on hb1)|(go_at_call_of 97 (Value.string s2);refine(Aa HB _).mono ?_;rintro _ w9 ⟨rfl,hb2⟩;have k2:=k1.on hb2)))
   replace LL:=Ac k2
   clear k1 k2 hb1 hb2
   go_wp2_with (fail)
   go_ret
   exact⟨rfl,(Aa LL).below⟩
  ·go_enter func129,ntmps129
   go_wp2_with (fail)
   refine(Aa HA _).mono ?_
   rintro _ w2 ⟨rfl,hb⟩
   replace LL:=Ac ((Aa LL).on hb)
   clear hb
   obtain⟨f0,c0_0,c0_1,c0_2,c0_3,c0_4⟩:=(Aa LL).one
   obtain⟨f1,c1_0,c1_1,c1_2,c1_3,c1_4⟩:=(Aa LL).two
   dsimp only at f0 c0_0 c0_1 c0_2 c0_3 c0_4 f1 c1_0 c1_1 c1_2 c1_3 c1_4
   go_wp2_with (fail)
   refine(Aa HB _).mono ?_
   rintro _ w3 ⟨rfl,hb⟩
   clear f0 c0_0 c0_1 c0_2 c0_3 c0_4 f1 c1_0 c1_1 c1_2 c1_3 c1_4
   replace LL:=Ac ((Aa LL).on hb)
   clear hb
   obtain⟨f0,c0_0,c0_1,c0_2,c0_3,c0_4⟩:=(Aa LL).one
   obtain⟨f1,c1_0,c1_1,c1_2,c1_3,c1_4⟩:=(Aa LL).two
   dsimp only at f0 c0_0 c0_1 c0_2 c0_3 c0_4 f1 c1_0 c1_1 c1_2 c1_3 c1_4
   go_wp2_with (fail)
   refine(Aa HS _ (Bf (Aa HT) (Aa LL).below)).mono ?_
   rintro _ w4 ⟨rfl,hb⟩
   clear f0 c0_0 c0_1 c0_2 c0_3 c0_4 f1 c1_0 c1_1 c1_2 c1_3 c1_4
   replace LL:=Ac ((Aa LL).on hb)
   clear hb
   obtain⟨f0,c0_0,c0_1,c0_2,c0_3,c0_4⟩:=(Aa LL).one
   obtain⟨f1,c1_0,c1_1,c1_2,c1_3,c1_4⟩:=(Aa LL).two
   dsimp only at f0 c0_0 c0_1 c0_2 c0_3 c0_4 f1 c1_0 c1_1 c1_2 c1_3 c1_4
   go_wp2_with (fail)
   go_ret
   exact⟨rfl,(Aa LL).below⟩
theorem Nk (a b:VV) (ha:a.x<2^64) (hb:b.x<2^64) (w:World) (hT:Lib.Utf8Tabs 4 5 w):Calls prog 124 #[a.agg,b.agg] w fun e w'=>e= .returned (.bool (Zat a b))/\Below w.heap.size w w':=by
 have HB:=Ac (Ey b hb)
 have HS:=Ac (fun w hT=>same51 a b ha hb w hT)
 have HT:=Ac hT
 clear hT
 unfold Zat
 have L0:=Lie.new2 w (.V a) (.V b)
 obtain⟨k,b1,x,s,i⟩:=a
 obtain⟨k2,b2,x2,s2,i2⟩:=b
 unfold PB.obj VV.obj at L0
 unfold VV.agg at *
 dsimp only at *
 have LL:=Ac L0
 clear L0 ha hb
 generalize thV ⟨k2,b2,x2,s2,i2⟩=tb at *
 generalize samV ⟨k,b1,x,s,i⟩ ⟨k2,b2,x2,s2,i2⟩=sm at *
 cases tb
 ·go_enter func124,ntmps124
  go_wp2_with (fail)
  refine(Aa HB _).mono ?_
  rintro _ w1 ⟨rfl,hb⟩
  replace LL:=Ac ((Aa LL).on hb)
  clear hb
  obtain⟨f0,c0_0,c0_1,c0_2,c0_3,c0_4⟩:=(Aa LL).one
  obtain⟨f1,c1_0,c1_1,c1_2,c1_3,c1_4⟩:=(Aa LL).two
  dsimp only at f0 c0_0 c0_1 c0_2 c0_3 c0_4 f1 c1_0 c1_1 c1_2 c1_3 c1_4
  go_wp2_with (fail)
  go_ret
  exact⟨rfl,(Aa LL).below⟩
 ·go_enter func124,ntmps124
  go_wp2_with (fail)
  refine(Aa HB _).mono ?_
  rintro _ w1 ⟨rfl,hb⟩
  replace LL:=Ac ((Aa LL).on hb)
  clear hb
  obtain⟨f0,c0_0,c0_1,c0_2,c0_3,c0_4⟩:=(Aa LL).one
  obtain⟨f1,c1_0,c1_1,c1_2,c1_3,c1_4⟩:=(Aa LL).two
  dsimp only at f0 c0_0 c0_1 c0_2 c0_3 c0_4 f1 c1_0 c1_1 c1_2 c1_3 c1_4
  go_wp2_with (fail)
  refine(Aa HS _ (Bf (Aa HT) (Aa LL).below)).mono ?_
  rintro _ w2 ⟨rfl,hb⟩
  clear f0 c0_0 c0_1 c0_2 c0_3 c0_4 f1 c1_0 c1_1 c1_2 c1_3 c1_4
  replace LL:=Ac ((Aa LL).on hb)
  clear hb
  obtain⟨f0,c0_0,c0_1,c0_2,c0_3,c0_4⟩:=(Aa LL).one
  obtain⟨f1,c1_0,c1_1,c1_2,c1_3,c1_4⟩:=(Aa LL).two
  dsimp only at f0 c0_0 c0_1 c0_2 c0_3 c0_4 f1 c1_0 c1_1 c1_2 c1_3 c1_4
  go_wp2_with (fail)
  go_ret
  exact⟨rfl,(Aa LL).below⟩
