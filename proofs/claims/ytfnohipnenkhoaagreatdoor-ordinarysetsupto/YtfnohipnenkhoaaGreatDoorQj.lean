import Derived.Test.YtfnohipnenkhoaaGreatDoorQi
import Derived.Stop.Asserts
import Derived.Deep.MidRow
import Derived.BigFrame
set_option linter.all false
namespace Go.Proofs.YtfnohipnenkhoaaGreatDoor
set_option maxRecDepth 100000
set_option maxHeartbeats 0
section
open Go.RowKit FM
theorem q56 (w:World):(binOp .eql 147 (.iface 165 (.agg #[])) (.iface 165 (.agg #[]))).run Tryz.prog w= .ok (.bool true) w:=by kernel_rfl
theorem q57 (w:World):(binOp .eql 147 (.iface 166 (.agg #[])) (.iface 166 (.agg #[]))).run Tryz.prog w= .ok (.bool true) w:=by kernel_rfl
theorem q58 (a b:Bool) (w:World):(binOp .eql 147 (.iface 167 (.bool a)) (.iface 167 (.bool b))).run Tryz.prog w= .ok (.bool (a==b)) w:=by kernel_rfl
theorem q79 (a b:ByteArray) (w:World):(binOp .eql 147 (.iface 170 (.string a)) (.iface 170 (.string b))).run Tryz.prog w= .ok (.bool (a.toList==b.toList)) w:=by
 rw[←beq_toListBytes];kernel_rfl
theorem q81 (a b:Int) (w:World):(binOp .eql 147 (.iface 171 (.int .i64 a)) (.iface 171 (.int .i64 b))).run Tryz.prog w= .ok (.bool (a==b)) w:=by kernel_rfl
theorem q82 (a b:Int) (w:World):(binOp .eql 147 (.iface 172 (.int .i64 a)) (.iface 172 (.int .i64 b))).run Tryz.prog w= .ok (.bool (a==b)) w:=by kernel_rfl
theorem qne (t u:TypeId) (a b:Value) (w:World) (h:t≠u):(binOp .eql 147 (.iface t a) (.iface u b)).run Tryz.prog w= .ok (.bool false) w:=run_eql_iface_types t u a b Tryz.underlying147 h w
attribute [local go_sem] Kj Ei ta56 ta57 ta58 ta59 ta79 ta81 ta82 q56 q57 q58 q79 q81 q82
def tyK (k:Int):TypeId:=if k=1 then 165 else if k=2 then 166 else if k=3 then 167 else if k=4 then 168 else if k=5 then 170 else if k=6 then 171 else 172
def inK (v:VV):Value:=if v.k=1 then .agg #[] else if v.k=2 then .agg #[] else if v.k=3 then .bool v.b else if v.k=4 then .float .f64 v.x else if v.k=5 then .string v.s else .int .i64 v.i
theorem Zaf (v:VV):v.ifc= .iface (tyK v.k) (inK v):=by
 unfold VV.ifc tyK inK
 repeat' split
 all_goals rfl
def Gu (cmp:Nat->Nat->Bool) (a b:VV):Bool:=a.k==b.k && (if a.k=4 then cmp a.x b.x else a.b==b.b && a.s.toList==b.s.toList && a.i==b.i)
theorem ZaF (x y:Nat) (w:World):
  Calls Tryz.prog 133 #[.iface 168 (.float .f64 x), .iface 168 (.float .f64 y), .func (.func 131) #[] #[]] w fun e w'=>e= .returned (.bool (Na x y))/\Below w.heap.size w w':=by
 go_enter Tryz.func133,Tryz.ntmps133
 go_wp2_with fail
 refine(same_any x y _).mono ?_
 rintro e w' ⟨rfl,rfl⟩
 go_wp2
 go_ret
 exact⟨rfl,Below.refl _ _⟩
theorem ZdO (t:TypeId) (x:Nat) (b g:Value) (ht:(t=168)=False) (w:World):
  Calls Tryz.prog 133 #[.iface 168 (.float .f64 x), .iface t b,g] w fun e w'=>e= .returned (.bool false)/\Below w.heap.size w w':=by
 go_enter Tryz.func133,Tryz.ntmps133
 go_wp2
 go_ret
 exact⟨rfl,Below.refl _ _⟩
theorem ZdN (t u:TypeId) (a b:Value) (r:Bool) (g:Value) (ht:(t=168)=False) (hr: ∀w,(binOp .eql 147 (.iface t a) (.iface u b)).run Tryz.prog w= .ok (.bool r) w) (w:World):
  Calls Tryz.prog 133 #[.iface t a, .iface u b,g] w fun e w'=>e= .returned (.bool r)/\Below w.heap.size w w':=by
 go_enter Tryz.func133,Tryz.ntmps133
 go_wp2
 go_ret
 exact⟨rfl,Below.refl _ _⟩
theorem qq {r r':Bool} {w:World} {c:Sem Value} (h:c.run Tryz.prog w= .ok (.bool r) w) (e:r=r'):c.run Tryz.prog w= .ok (.bool r') w:=by rw[h,e]
theorem eql_good (cmp:Nat->Nat->Bool) (a b:VV) (ha:a.good=true) (hb:b.good=true) (h4:a.k≠4) (w:World):(binOp .eql 147 a.ifc b.ifc).run Tryz.prog w= .ok (.bool (Gu cmp a b)) w:=by
 obtain⟨k,c,x,s,i⟩:=a
 obtain⟨k',c',x',s',i'⟩:=b
 by_cases hk:k=k'
 ·subst hk
  rcases Gt ha with ⟨rfl,rfl,rfl,rfl,rfl⟩|⟨rfl,rfl,rfl,rfl,rfl⟩|⟨rfl,rfl,rfl,rfl⟩|⟨rfl,rfl,rfl,rfl⟩|⟨rfl,rfl,rfl,rfl, -⟩|⟨rfl,rfl,rfl,rfl, -, -⟩|⟨rfl,rfl,rfl,rfl, -, -⟩
  ·rcases Gt hb with ⟨-,rfl,rfl,rfl,rfl⟩|⟨h, -⟩|⟨h, -⟩|⟨h, -⟩|⟨h, -⟩|⟨h, -⟩|⟨h, -⟩<;>first|(exfalso;dsimp only at h;omega)|exact qq (q56 w) (by simp[Gu])
  ·rcases Gt hb with ⟨h, -⟩|⟨-,rfl,rfl,rfl,rfl⟩|⟨h, -⟩|⟨h, -⟩|⟨h, -⟩|⟨h, -⟩|⟨h, -⟩<;>first|(exfalso;dsimp only at h;omega)|exact qq (q57 w) (by simp[Gu])
  ·rcases Gt hb with ⟨h, -⟩|⟨h, -⟩|⟨-,rfl,rfl,rfl⟩|⟨h, -⟩|⟨h, -⟩|⟨h, -⟩|⟨h, -⟩<;>first|(exfalso;dsimp only at h;omega)|exact qq (q58 c c' w) (by simp[Gu])
  ·exact absurd rfl h4
  ·rcases Gt hb with ⟨h, -⟩|⟨h, -⟩|⟨h, -⟩|⟨h, -⟩|⟨-,rfl,rfl,rfl, -⟩|⟨h, -⟩|⟨h, -⟩<;>first|(exfalso;dsimp only at h;omega)|exact qq (q79 s s' w) (by simp[Gu])
  ·rcases Gt hb with ⟨h, -⟩|⟨h, -⟩|⟨h, -⟩|⟨h, -⟩|⟨h, -⟩|⟨-,rfl,rfl,rfl, -, -⟩|⟨h, -⟩<;>first|(exfalso;dsimp only at h;omega)|exact qq (q81 i i' w) (by simp[Gu])
  ·rcases Gt hb with ⟨h, -⟩|⟨h, -⟩|⟨h, -⟩|⟨h, -⟩|⟨h, -⟩|⟨h, -⟩|⟨-,rfl,rfl,rfl, -, -⟩<;>first|(exfalso;dsimp only at h;omega)|exact qq (q82 i i' w) (by simp[Gu])
 ·rw[Zaf,Zaf]
  refine qq (qne _ _ _ _ w ?_) ?_
  ·have e1:k=1∨k=2∨k=3∨k=4∨k=5∨k=6∨k=7:=by
    rcases Gt ha with ⟨h, -⟩|⟨h, -⟩|⟨h, -⟩|⟨h, -⟩|⟨h, -⟩|⟨h, -⟩|⟨h, -⟩<;>(dsimp only at h;omega)
   have e2:k'=1∨k'=2∨k'=3∨k'=4∨k'=5∨k'=6∨k'=7:=by
    rcases Gt hb with ⟨h, -⟩|⟨h, -⟩|⟨h, -⟩|⟨h, -⟩|⟨h, -⟩|⟨h, -⟩|⟨h, -⟩<;>(dsimp only at h;omega)
   dsimp only
   rcases e1 with rfl|rfl|rfl|rfl|rfl|rfl|rfl<;>rcases e2 with rfl|rfl|rfl|rfl|rfl|rfl|rfl<;>first|exact absurd rfl hk|decide
  ·unfold Gu
   have:(k==k')=false:=by rw[beq_eq_false_iff_ne];exact hk
   simp[this]
theorem tyK_ne {k:Int} (h:k≠4):(tyK k=168)=False:=by
 unfold tyK
 repeat' split
 all_goals first|contradiction|simp
theorem ZdP (f:FuncId) (cmp:Nat->Nat->Bool) (a b:VV) (ha:a.good=true) (hb:b.good=true)
  (hn: ∀w,Calls Tryz.prog 133 #[.iface 168 (.float .f64 a.x), .iface 168 (.float .f64 b.x), .func (.func f) #[] #[]] w fun e w'=>e= .returned (.bool (cmp a.x b.x))/\Below w.heap.size w w') (w:World):
  Calls Tryz.prog 133 #[a.ifc,b.ifc, .func (.func f) #[] #[]] w fun e w'=>e= .returned (.bool (Gu cmp a b))/\Below w.heap.size w w':=by
 by_cases h4:a.k=4
 ·by_cases k4:b.k=4
  ·have e1:a.ifc= .iface 168 (.float .f64 a.x):=by unfold VV.ifc;rw[h4];rfl
   have e2:b.ifc= .iface 168 (.float .f64 b.x):=by unfold VV.ifc;rw[k4];rfl
   have e3:Gu cmp a b=cmp a.x b.x:=by unfold Gu;simp[h4,k4]
   rw[e1,e2,e3]
   exact hn w
  ·have e1:a.ifc= .iface 168 (.float .f64 a.x):=by unfold VV.ifc;rw[h4];rfl
   have e3:Gu cmp a b=false:=by
    unfold Gu
    have:(a.k==b.k)=false:=by rw[beq_eq_false_iff_ne,h4];exact fun e=>k4 e.symm
    rw[this];rfl
   rw[e1,Zaf b,e3]
   exact ZdO _ _ _ _ (tyK_ne k4) w
 ·have he:=eql_good cmp a b ha hb h4
  rw[Zaf a,Zaf b] at *
  exact ZdN _ _ _ _ _ _ (tyK_ne h4) he w
end
section
open Go.RowKit FM
attribute [local go_sem] Kj Ei
def okE (g:Bool) (r:Bool):Value:= .tuple #[.bool (g && r), .int .i64 (Zau g)]
theorem hold_any (f:FuncId) (cmp:Nat->Nat->Bool) (a b:VV)
  (hn: ∀w,Calls Tryz.prog 133 #[.iface 168 (.float .f64 a.x), .iface 168 (.float .f64 b.x), .func (.func f) #[] #[]] w fun e w'=>e= .returned (.bool (cmp a.x b.x))/\Below w.heap.size w w') (w:World) (hT:Lib.Utf8Tabs 1 2 w):
  Calls Tryz.prog 130 #[a.agg,b.agg, .func (.func f) #[] #[]] w fun e w'=>e= .returned (okE (a.good && b.good) (Gu cmp a b))/\Below w.heap.size w w':=by
 have HT:=Ab hT
 clear hT
 have HI:=Ab (Oo a.k a.b a.x a.s a.i)
 have HJ:=Ab (Oo b.k b.b b.x b.s b.i)
 have HA:=Ab (fun ha hb=>ZdP f cmp a b ha hb hn)
 clear hn
 have e1:Nh a.k a.b a.x a.s a.i=a.good:=rfl
 have e2:Nh b.k b.b b.x b.s b.i=b.good:=rfl
 rw[e1] at HI
 rw[e2] at HJ
 cases hg:a.good
 ·rw[hg] at HI
  generalize Zcz ⟨a.k,a.b,a.x,a.s,a.i⟩=fa at *
  generalize Zcz ⟨b.k,b.b,b.x,b.s,b.i⟩=fb at *
  generalize b.good=gb at *
  clear HA e1 e2 hg
  generalize Gu cmp a b=r
  obtain⟨k,c,x,s,i⟩:=a
  obtain⟨k',c',x',s',i'⟩:=b
  unfold VV.agg at *
  dsimp only at *
  cases gb
  all_goals
   go_enter Tryz.func130,Tryz.ntmps130
   go_wp2_with fail
   refine(Aa HI _ (Au (Aa HT) (Ly w _ _))).mono ?_
   rintro e w1 ⟨rfl,hb⟩
   have hB:=(Ly w _ _).trans (hb.mono (by simp;omega))
   obtain⟨r0,r1,r2,r3,r4,rf,rl⟩:=Oq (Ux _ (w.heap.size+1) _ _ _ _ _ _ (by simp)) hb
   clear hb
   go_wp2_with fail
   refine(Aa HJ _ (Au (Aa HT) hB)).mono ?_
   rintro e w2 ⟨rfl,hb⟩
   go_wp2
   go_ret2
   exact⟨by simp[okE,Zau],hB.trans (hb.mono hB.size)⟩
 ·rw[hg,Za0 (v:=⟨a.k,a.b,a.x,a.s,a.i⟩) hg] at HI
  have e3:VV.ifc ⟨a.k,a.b,a.x,a.s,a.i⟩=a.ifc:=rfl
  rw[e3] at HI
  cases hh:b.good
  ·rw[hh] at HJ
   generalize Zcz ⟨b.k,b.b,b.x,b.s,b.i⟩=fb at *
   clear HA e1 e2 e3 hg hh
   generalize Gu cmp a b=r
   generalize a.ifc=fa at *
   obtain⟨k,c,x,s,i⟩:=a
   obtain⟨k',c',x',s',i'⟩:=b
   unfold VV.agg at *
   dsimp only at *
   go_enter Tryz.func130,Tryz.ntmps130
   go_wp2_with fail
   refine(Aa HI _ (Au (Aa HT) (Ly w _ _))).mono ?_
   rintro e w1 ⟨rfl,hb⟩
   have hB:=(Ly w _ _).trans (hb.mono (by simp;omega))
   obtain⟨r0,r1,r2,r3,r4,rf,rl⟩:=Oq (Ux _ (w.heap.size+1) _ _ _ _ _ _ (by simp)) hb
   clear hb
   go_wp2_with fail
   refine(Aa HJ _ (Au (Aa HT) hB)).mono ?_
   rintro e w2 ⟨rfl,hb⟩
   go_wp2
   go_ret2
   exact⟨by simp[okE,Zau],hB.trans (hb.mono hB.size)⟩
  ·rw[hh,Za0 (v:=⟨b.k,b.b,b.x,b.s,b.i⟩) hh] at HJ
   have e4:VV.ifc ⟨b.k,b.b,b.x,b.s,b.i⟩=b.ifc:=rfl
   rw[e4] at HJ
   have HA':=Ab (Aa HA hg hh)
   clear HA e1 e2 e3 e4 hg hh
   generalize Gu cmp a b=r at *
   generalize a.ifc=fa at *
   generalize b.ifc=fb at *
   obtain⟨k,c,x,s,i⟩:=a
   obtain⟨k',c',x',s',i'⟩:=b
   unfold VV.agg at *
   dsimp only at *
   go_enter Tryz.func130,Tryz.ntmps130
   go_wp2_with fail
   refine(Aa HI _ (Au (Aa HT) (Ly w _ _))).mono ?_
   rintro e w1 ⟨rfl,hb⟩
   have hB:=(Ly w _ _).trans (hb.mono (by simp;omega))
   obtain⟨r0,r1,r2,r3,r4,rf,rl⟩:=Oq (Ux _ (w.heap.size+1) _ _ _ _ _ _ (by simp)) hb
   clear hb
   go_wp2_with fail
   refine(Aa HJ _ (Au (Aa HT) hB)).mono ?_
   rintro e w2 ⟨rfl,hb⟩
   have hB2:=hB.trans (hb.mono hB.size)
   clear hb r0 r1 r2 r3 r4 rf rl
   go_wp2_with fail
   refine(Aa HA' _).mono ?_
   rintro e w3 ⟨rfl,hb⟩
   go_wp2
   go_ret2
   exact⟨by simp[okE,Zau],hB2.trans (hb.mono hB2.size)⟩
theorem ZaH (a b:VV) (w:World) (hT:Lib.Utf8Tabs 1 2 w):
  Calls Tryz.prog 127 #[a.agg,b.agg] w fun e w'=>e= .returned (okE (a.good && b.good) (Gu Na a b))/\Below w.heap.size w w':=by
 have HT:=Ab hT
 have HH:=Ab (hold_any 131 Na a b (ZaF a.x b.x))
 clear hT
 unfold okE at *
 generalize (a.good && b.good)=g at *
 generalize Gu Na a b=r at *
 obtain⟨k,c,x,s,i⟩:=a
 obtain⟨k',c',x',s',i'⟩:=b
 unfold VV.agg at *
 dsimp only at *
 go_enter Tryz.func127,Tryz.ntmps127
 go_wp2_with fail
 refine(Aa HH _ (Au (Aa HT) (Ly w _ _))).mono ?_
 rintro e w1 ⟨rfl,hb⟩
 go_wp2
 go_ret2
 exact⟨rfl,(Ly w _ _).trans (hb.mono (by simp;omega))⟩
end
section
open Go Go.Proofs Go.RowKit FM Tryz
attribute [local go_sem] Ei
def Nk (v:VV):Bool:=if v.k==1||v.k==7 then v.good else !thV v
def samV (a b:VV):Bool:=if !thV a|| !thV b then thV a==thV b else a.good && b.good && Gu Na a b
def ZcN (n f:VV):Bool:=thV f && !samV n f
def orV (v a:VV):VV:=if thV v then v else a
def Dr:VV:=⟨1,false,0,ByteArray.empty,0⟩
theorem Vi (v:VV) (hx:v.x<2^64) (w:World) (hT:Lib.Utf8Tabs 1 2 w):Calls prog 104 #[v.agg] w fun e w'=>e= .returned (.bool (Nk v))/\Below w.heap.size w w':=by
 have HC:=Ab (fun w hT=>Mo v w hT)
 have HV:=Ab (Gl v hx)
 have HT:=Ab hT
 clear hT
 unfold Nk
 have L0:=Lie.new1 w (.V v)
 obtain⟨k,b,x,s,i⟩:=v
 unfold PB.obj VV.obj at L0
 unfold VV.agg Zau at *
 dsimp only at *
 have LL:=Ab L0
 clear L0 hx
 generalize VV.good ⟨k,b,x,s,i⟩=g at *
 generalize thV ⟨k,b,x,s,i⟩=t at *
 by_cases hk:k=1
 ·subst hk
  cases g
  ·go_enter func104,ntmps104
   go_wp2_with (fail)
   refine(Aa HC _ (Au (Aa HT) (Aa LL).below)).mono ?_
   rintro _ w1 ⟨rfl,hb⟩
   replace LL:=Ab ((Aa LL).on hb)
   clear hb
   obtain⟨f0,c0_0,c0_1,c0_2,c0_3,c0_4⟩:=(Aa LL).one
   dsimp only at f0 c0_0 c0_1 c0_2 c0_3 c0_4
   go_wp2_with (fail)
   go_ret
   exact⟨rfl,(Aa LL).below⟩
  ·go_enter func104,ntmps104
   go_wp2_with (fail)
   refine(Aa HC _ (Au (Aa HT) (Aa LL).below)).mono ?_
   rintro _ w1 ⟨rfl,hb⟩
   replace LL:=Ab ((Aa LL).on hb)
   clear hb
   obtain⟨f0,c0_0,c0_1,c0_2,c0_3,c0_4⟩:=(Aa LL).one
   dsimp only at f0 c0_0 c0_1 c0_2 c0_3 c0_4
   go_wp2_with (fail)
   go_ret
   exact⟨rfl,(Aa LL).below⟩
 ·by_cases hk7:k=7
  ·subst hk7
   cases g
   ·go_enter func104,ntmps104
    go_wp2_with (fail)
    refine(Aa HC _ (Au (Aa HT) (Aa LL).below)).mono ?_
    rintro _ w1 ⟨rfl,hb⟩
    replace LL:=Ab ((Aa LL).on hb)
    clear hb
    obtain⟨f0,c0_0,c0_1,c0_2,c0_3,c0_4⟩:=(Aa LL).one
    dsimp only at f0 c0_0 c0_1 c0_2 c0_3 c0_4
    go_wp2_with (fail)
    go_ret
    exact⟨rfl,(Aa LL).below⟩
   ·go_enter func104,ntmps104
    go_wp2_with (fail)
    refine(Aa HC _ (Au (Aa HT) (Aa LL).below)).mono ?_
    rintro _ w1 ⟨rfl,hb⟩
    replace LL:=Ab ((Aa LL).on hb)
    clear hb
    obtain⟨f0,c0_0,c0_1,c0_2,c0_3,c0_4⟩:=(Aa LL).one
    dsimp only at f0 c0_0 c0_1 c0_2 c0_3 c0_4
    go_wp2_with (fail)
    go_ret
    exact⟨rfl,(Aa LL).below⟩
  ·have e1:(k==1)=false:=by simp[hk]
   have e7:(k==7)=false:=by simp[hk7]
   rw[e1,e7]
   go_enter func104,ntmps104
   go_wp2_with (fail)
   refine(Aa HV _).mono ?_
   rintro _ w1 ⟨rfl,hb⟩
   replace LL:=Ab ((Aa LL).on hb)
   clear hb
   obtain⟨f0,c0_0,c0_1,c0_2,c0_3,c0_4⟩:=(Aa LL).one
   dsimp only at f0 c0_0 c0_1 c0_2 c0_3 c0_4
   go_wp2_with (fail)
   go_ret
   exact⟨rfl,(Aa LL).below⟩
theorem Km (v a:VV) (hx:v.x<2^64) (w:World):Calls prog 112 #[v.agg,a.agg] w fun e w'=>e= .returned (orV v a).agg/\Below w.heap.size w w':=by
 have HV:=Ab (Gl v hx)
 unfold orV
 have L0:=Lie.new3 w (.V v) (.V a) (.V Av)
 obtain⟨k,b,x,s,i⟩:=v
 obtain⟨k2,b2,x2,s2,i2⟩:=a
 unfold PB.obj VV.obj at L0
 unfold VV.agg at *
 dsimp only at *
 have LL:=Ab L0
 clear L0 hx
 generalize thV ⟨k,b,x,s,i⟩=t at *
 cases t
 ·go_enter func112,ntmps112
  go_wp2_with (fail)
  refine(Aa HV _).mono ?_
  rintro _ w1 ⟨rfl,hb⟩
  replace LL:=Ab ((Aa LL).on hb)
  clear hb
  obtain⟨f0,c0_0,c0_1,c0_2,c0_3,c0_4⟩:=(Aa LL).one
  obtain⟨f1,c1_0,c1_1,c1_2,c1_3,c1_4⟩:=(Aa LL).two
  obtain⟨f2,c2_0,c2_1,c2_2,c2_3,c2_4⟩:=(Aa LL).three
  dsimp only at f0 c0_0 c0_1 c0_2 c0_3 c0_4 f1 c1_0 c1_1 c1_2 c1_3 c1_4 f2 c2_0 c2_1 c2_2 c2_3 c2_4
  go_wp2_with (fail)
  simp[bodyPost,results,Tryz.results112,go_sem,c2_0,c2_1,c2_2,c2_3,c2_4]
  exact set5 (Aa LL).below (by omega)
 ·go_enter func112,ntmps112
  go_wp2_with (fail)
  refine(Aa HV _).mono ?_
  rintro _ w1 ⟨rfl,hb⟩
  replace LL:=Ab ((Aa LL).on hb)
  clear hb
  obtain⟨f0,c0_0,c0_1,c0_2,c0_3,c0_4⟩:=(Aa LL).one
  obtain⟨f1,c1_0,c1_1,c1_2,c1_3,c1_4⟩:=(Aa LL).two
  obtain⟨f2,c2_0,c2_1,c2_2,c2_3,c2_4⟩:=(Aa LL).three
  dsimp only at f0 c0_0 c0_1 c0_2 c0_3 c0_4 f1 c1_0 c1_1 c1_2 c1_3 c1_4 f2 c2_0 c2_1 c2_2 c2_3 c2_4
  go_wp2_with (fail)
  simp[bodyPost,results,Tryz.results112,go_sem,c2_0,c2_1,c2_2,c2_3,c2_4]
  exact set5 (Aa LL).below (by omega)
end
section
open Go Go.Proofs Go.RowKit FM Tryz
theorem Zew {w X:World} {k:Int} {b1:Bool} {x:Nat} {s:ByteArray} {i:Int} {k2:Int} {b2:Bool} {x2:Nat} {s2:ByteArray} {i2:Int} (h:Lie w X [.V ⟨k,b1,x,s,i⟩, .V ⟨k2,b2,x2,s2,i2⟩]):
  X.cell? ⟨w.heap.size,0,none⟩=some (.int .i64 k)/\X.cell? ⟨w.heap.size,1,none⟩=some (.bool b1)/\X.cell? ⟨w.heap.size,2,none⟩=some (.float .f64 x)/\X.cell? ⟨w.heap.size,3,none⟩=some (.string s)/\X.cell? ⟨w.heap.size,4,none⟩=some (.int .i64 i)/\X.cell? ⟨w.heap.size+1,0,none⟩=some (.int .i64 k2)/\X.cell? ⟨w.heap.size+1,1,none⟩=some (.bool b2)/\X.cell? ⟨w.heap.size+1,2,none⟩=some (.float .f64 x2)/\X.cell? ⟨w.heap.size+1,3,none⟩=some (.string s2)/\X.cell? ⟨w.heap.size+1,4,none⟩=some (.int .i64 i2):=by
 obtain⟨-,a0,a1,a2,a3,a4⟩:=h.one
 obtain⟨-,b0,b1,b2,b3,b4⟩:=h.two
 exact⟨a0,a1,a2,a3,a4,b0,b1,b2,b3,b4⟩
theorem same51 (a b:VV) (ha:a.x<2^64) (hb:b.x<2^64) (w:World) (hT:Lib.Utf8Tabs 1 2 w):Calls prog 122 #[a.agg,b.agg] w fun e w'=>e= .returned (.bool (samV a b))/\Below w.heap.size w w':=by
 have HA:=Ab (Gl a ha)
 have HB:=Ab (Gl b hb)
 have HS:=Ab (fun w hT=>ZaH a b w hT)
 have HT:=Ab hT
 clear hT
 unfold samV
 have L0:=Lie.new2 w (.V a) (.V b)
 obtain⟨k,b1,x,s,i⟩:=a
 obtain⟨k2,b2,x2,s2,i2⟩:=b
 unfold PB.obj VV.obj at L0
 unfold VV.agg okE at *
 dsimp only at *
 have LL:=Ab L0
 clear L0 ha hb
 generalize thV ⟨k,b1,x,s,i⟩=ta at *
 generalize thV ⟨k2,b2,x2,s2,i2⟩=tb at *
 generalize (VV.good ⟨k,b1,x,s,i⟩ && VV.good ⟨k2,b2,x2,s2,i2⟩)=g at *
 generalize Gu Na ⟨k,b1,x,s,i⟩ ⟨k2,b2,x2,s2,i2⟩=al at *
 cases ta
 ·go_enter func122,ntmps122
  go_wp2_with (fail)
  refine(Aa HA _).mono ?_
  rintro _ w1 ⟨rfl,hb⟩
  replace LL:=Ab ((Aa LL).on hb)
  clear hb
  obtain⟨f0,c0_0,c0_1,c0_2,c0_3,c0_4⟩:=(Aa LL).one
  obtain⟨f1,c1_0,c1_1,c1_2,c1_3,c1_4⟩:=(Aa LL).two
  dsimp only at f0 c0_0 c0_1 c0_2 c0_3 c0_4 f1 c1_0 c1_1 c1_2 c1_3 c1_4
  go_wp2_with (fail)
  go_region_held3 (fun X=>X.cell? ⟨w.heap.size,0,none⟩=some (.int .i64 k)/\X.cell? ⟨w.heap.size,1,none⟩=some (.bool b1)/\X.cell? ⟨w.heap.size,2,none⟩=some (.float .f64 x)/\X.cell? ⟨w.heap.size,3,none⟩=some (.string s)/\X.cell? ⟨w.heap.size,4,none⟩=some (.int .i64 i)/\X.cell? ⟨w.heap.size+1,0,none⟩=some (.int .i64 k2)/\X.cell? ⟨w.heap.size+1,1,none⟩=some (.bool b2)/\X.cell? ⟨w.heap.size+1,2,none⟩=some (.float .f64 x2)/\X.cell? ⟨w.heap.size+1,3,none⟩=some (.string s2)/\X.cell? ⟨w.heap.size+1,4,none⟩=some (.int .i64 i2)) (first|exact Zew k2|exact Zew k1|exact Zew (Aa LL).drew) ((first|(go_at_call_of 103 (Value.string s);refine(Aa HA _).mono ?_;rintro _ w8 ⟨rfl,hb1⟩;have k1:=((Aa LL).drew).on hb1)|(go_at_call_of 103 (Value.string s2);refine(Aa HB _).mono ?_;rintro _ w9 ⟨rfl,hb2⟩;have k2:=k1.on hb2)))
  replace LL:=Ab k2
  clear k1 k2 hb1 hb2
  go_wp2_with (fail)
  go_ret
  exact⟨rfl,(Aa LL).below⟩
 ·cases tb
  ·go_enter func122,ntmps122
   go_wp2_with (fail)
   refine(Aa HA _).mono ?_
   rintro _ w2 ⟨rfl,hb⟩
   replace LL:=Ab ((Aa LL).on hb)
   clear hb
   obtain⟨f0,c0_0,c0_1,c0_2,c0_3,c0_4⟩:=(Aa LL).one
   obtain⟨f1,c1_0,c1_1,c1_2,c1_3,c1_4⟩:=(Aa LL).two
   dsimp only at f0 c0_0 c0_1 c0_2 c0_3 c0_4 f1 c1_0 c1_1 c1_2 c1_3 c1_4
   go_wp2_with (fail)
   refine(Aa HB _).mono ?_
   rintro _ w3 ⟨rfl,hb⟩
   clear f0 c0_0 c0_1 c0_2 c0_3 c0_4 f1 c1_0 c1_1 c1_2 c1_3 c1_4
   replace LL:=Ab ((Aa LL).on hb)
   clear hb
   obtain⟨f0,c0_0,c0_1,c0_2,c0_3,c0_4⟩:=(Aa LL).one
   obtain⟨f1,c1_0,c1_1,c1_2,c1_3,c1_4⟩:=(Aa LL).two
   dsimp only at f0 c0_0 c0_1 c0_2 c0_3 c0_4 f1 c1_0 c1_1 c1_2 c1_3 c1_4
   go_wp2_with (fail)
   go_region_held3 (fun X=>X.cell? ⟨w.heap.size,0,none⟩=some (.int .i64 k)/\X.cell? ⟨w.heap.size,1,none⟩=some (.bool b1)/\X.cell? ⟨w.heap.size,2,none⟩=some (.float .f64 x)/\X.cell? ⟨w.heap.size,3,none⟩=some (.string s)/\X.cell? ⟨w.heap.size,4,none⟩=some (.int .i64 i)/\X.cell? ⟨w.heap.size+1,0,none⟩=some (.int .i64 k2)/\X.cell? ⟨w.heap.size+1,1,none⟩=some (.bool b2)/\X.cell? ⟨w.heap.size+1,2,none⟩=some (.float .f64 x2)/\X.cell? ⟨w.heap.size+1,3,none⟩=some (.string s2)/\X.cell? ⟨w.heap.size+1,4,none⟩=some (.int .i64 i2)) (first|exact Zew k2|exact Zew k1|exact Zew (Aa LL).drew) ((first|(go_at_call_of 103 (Value.string s);refine(Aa HA _).mono ?_;rintro _ w8 ⟨rfl,hb1⟩;have k1:=((Aa LL).drew).on hb1)|(go_at_call_of 103 (Value.string s2);refine(Aa HB _).mono ?_;rintro _ w9 ⟨rfl,hb2⟩;have k2:=k1.on hb2)))
   replace LL:=Ab k2
   clear k1 k2 hb1 hb2
   go_wp2_with (fail)
   go_ret
   exact⟨rfl,(Aa LL).below⟩
  ·go_enter func122,ntmps122
   go_wp2_with (fail)
   refine(Aa HA _).mono ?_
   rintro _ w2 ⟨rfl,hb⟩
   replace LL:=Ab ((Aa LL).on hb)
   clear hb
   obtain⟨f0,c0_0,c0_1,c0_2,c0_3,c0_4⟩:=(Aa LL).one
   obtain⟨f1,c1_0,c1_1,c1_2,c1_3,c1_4⟩:=(Aa LL).two
   dsimp only at f0 c0_0 c0_1 c0_2 c0_3 c0_4 f1 c1_0 c1_1 c1_2 c1_3 c1_4
   go_wp2_with (fail)
   refine(Aa HB _).mono ?_
   rintro _ w3 ⟨rfl,hb⟩
   clear f0 c0_0 c0_1 c0_2 c0_3 c0_4 f1 c1_0 c1_1 c1_2 c1_3 c1_4
   replace LL:=Ab ((Aa LL).on hb)
   clear hb
   obtain⟨f0,c0_0,c0_1,c0_2,c0_3,c0_4⟩:=(Aa LL).one
   obtain⟨f1,c1_0,c1_1,c1_2,c1_3,c1_4⟩:=(Aa LL).two
   dsimp only at f0 c0_0 c0_1 c0_2 c0_3 c0_4 f1 c1_0 c1_1 c1_2 c1_3 c1_4
   go_wp2_with (fail)
   refine(Aa HS _ (Au (Aa HT) (Aa LL).below)).mono ?_
   rintro _ w4 ⟨rfl,hb⟩
   clear f0 c0_0 c0_1 c0_2 c0_3 c0_4 f1 c1_0 c1_1 c1_2 c1_3 c1_4
   replace LL:=Ab ((Aa LL).on hb)
   clear hb
   obtain⟨f0,c0_0,c0_1,c0_2,c0_3,c0_4⟩:=(Aa LL).one
   obtain⟨f1,c1_0,c1_1,c1_2,c1_3,c1_4⟩:=(Aa LL).two
   dsimp only at f0 c0_0 c0_1 c0_2 c0_3 c0_4 f1 c1_0 c1_1 c1_2 c1_3 c1_4
   go_wp2_with (fail)
   go_ret
   exact⟨rfl,(Aa LL).below⟩
theorem Qg (a b:VV) (ha:a.x<2^64) (hb:b.x<2^64) (w:World) (hT:Lib.Utf8Tabs 1 2 w):Calls prog 116 #[a.agg,b.agg] w fun e w'=>e= .returned (.bool (ZcN a b))/\Below w.heap.size w w':=by
 have HB:=Ab (Gl b hb)
 have HS:=Ab (fun w hT=>same51 a b ha hb w hT)
 have HT:=Ab hT
 clear hT
 unfold ZcN
 have L0:=Lie.new2 w (.V a) (.V b)
 obtain⟨k,b1,x,s,i⟩:=a
 obtain⟨k2,b2,x2,s2,i2⟩:=b
 unfold PB.obj VV.obj at L0
 unfold VV.agg at *
 dsimp only at *
 have LL:=Ab L0
 clear L0 ha hb
 generalize thV ⟨k2,b2,x2,s2,i2⟩=tb at *
 generalize samV ⟨k,b1,x,s,i⟩ ⟨k2,b2,x2,s2,i2⟩=sm at *
 cases tb
 ·go_enter func116,ntmps116
  go_wp2_with (fail)
  refine(Aa HB _).mono ?_
  rintro _ w1 ⟨rfl,hb⟩
  replace LL:=Ab ((Aa LL).on hb)
  clear hb
  obtain⟨f0,c0_0,c0_1,c0_2,c0_3,c0_4⟩:=(Aa LL).one
  obtain⟨f1,c1_0,c1_1,c1_2,c1_3,c1_4⟩:=(Aa LL).two
  dsimp only at f0 c0_0 c0_1 c0_2 c0_3 c0_4 f1 c1_0 c1_1 c1_2 c1_3 c1_4
  go_wp2_with (fail)
  go_ret
  exact⟨rfl,(Aa LL).below⟩
 ·go_enter func116,ntmps116
  go_wp2_with (fail)
  refine(Aa HB _).mono ?_
  rintro _ w1 ⟨rfl,hb⟩
  replace LL:=Ab ((Aa LL).on hb)
  clear hb
  obtain⟨f0,c0_0,c0_1,c0_2,c0_3,c0_4⟩:=(Aa LL).one
  obtain⟨f1,c1_0,c1_1,c1_2,c1_3,c1_4⟩:=(Aa LL).two
  dsimp only at f0 c0_0 c0_1 c0_2 c0_3 c0_4 f1 c1_0 c1_1 c1_2 c1_3 c1_4
  go_wp2_with (fail)
  refine(Aa HS _ (Au (Aa HT) (Aa LL).below)).mono ?_
  rintro _ w2 ⟨rfl,hb⟩
  clear f0 c0_0 c0_1 c0_2 c0_3 c0_4 f1 c1_0 c1_1 c1_2 c1_3 c1_4
  replace LL:=Ab ((Aa LL).on hb)
  clear hb
  obtain⟨f0,c0_0,c0_1,c0_2,c0_3,c0_4⟩:=(Aa LL).one
  obtain⟨f1,c1_0,c1_1,c1_2,c1_3,c1_4⟩:=(Aa LL).two
  dsimp only at f0 c0_0 c0_1 c0_2 c0_3 c0_4 f1 c1_0 c1_1 c1_2 c1_3 c1_4
  go_wp2_with (fail)
  go_ret
  exact⟨rfl,(Aa LL).below⟩
end
section
open Go Go.Proofs Go.RowKit FM
def Kf (d:DD):Bool:=(!thV d.v||d.v.good) && Nk d.g && Nk d.s && Pi d.w && Pi d.e && Pi d.c
def Jm (d:DD):Int:=if Kf d then Di d else 0
def wholeV (d:DD):Bool:=if Jm d==3 then (d.e !=0 && d.c !=0) && thV d.g && thV d.s else if Jm d==2 then (d.e !=0 && d.c !=0) && thV d.v && d.w !=0 else false
theorem Df (d:DD) (hd:FD d) (w:World):Calls Tryz.prog 78 #[d.agg] w fun e w'=>e= .returned (.int .i64 (Di d))/\Below w.heap.size w w':=by
 have HV:=Ab (Gl d.v hd.1)
 have HG:=Ab (Gl d.g hd.2.1)
 have HS:=Ab (Gl d.s hd.2.2)
 clear hd
 have L0:=Lie.new1 w (.D d)
 obtain⟨v,g,s,a,e,c⟩:=d
 unfold Di
 unfold DD.agg
 unfold PB.obj DD.obj at L0
 unfold VV.agg at *
 dsimp only at *
 have LL:=Ab L0
 clear L0
 generalize thV v=tv at *
 generalize thV g=tg at *
 generalize thV s=ts at *
 generalize hq:(a !=0)=q at *
 go_enter Tryz.func78,Tryz.ntmps78
 go_wp2_with fail
 refine(Aa HV _).mono ?_
 rintro _ w1 ⟨rfl,hb⟩
 replace LL:=Ab ((Aa LL).on hb)
 clear hb
 obtain⟨f0,c0_0,c0_1,c0_2,c0_3,c0_4,c0_5,c0_6,c0_7,c0_8,c0_9,c0_10,c0_11,c0_12,c0_13,c0_14,c0_15,c0_16,c0_17⟩:=(Aa LL).one
 dsimp only at f0 c0_0 c0_1 c0_2 c0_3 c0_4 c0_5 c0_6 c0_7 c0_8 c0_9 c0_10 c0_11 c0_12 c0_13 c0_14 c0_15 c0_16 c0_17
 cases tv
 ·cases q
  ·go_wp2_with ((go_at_call 106;refine(Ea _ _).mono ?_;rintro _ _ ⟨rfl,rfl⟩))
   refine(Aa HG _).mono ?_
   rintro _ w2 ⟨rfl,hb⟩
   clear f0 c0_0 c0_1 c0_2 c0_3 c0_4 c0_5 c0_6 c0_7 c0_8 c0_9 c0_10 c0_11 c0_12 c0_13 c0_14 c0_15 c0_16 c0_17
   replace LL:=Ab ((Aa LL).on hb)
   clear hb
   obtain⟨f0,c0_0,c0_1,c0_2,c0_3,c0_4,c0_5,c0_6,c0_7,c0_8,c0_9,c0_10,c0_11,c0_12,c0_13,c0_14,c0_15,c0_16,c0_17⟩:=(Aa LL).one
   dsimp only at f0 c0_0 c0_1 c0_2 c0_3 c0_4 c0_5 c0_6 c0_7 c0_8 c0_9 c0_10 c0_11 c0_12 c0_13 c0_14 c0_15 c0_16 c0_17
   cases tg
   ·go_wp2_with fail
    refine(Aa HS _).mono ?_
    rintro _ w3 ⟨rfl,hb⟩
    clear f0 c0_0 c0_1 c0_2 c0_3 c0_4 c0_5 c0_6 c0_7 c0_8 c0_9 c0_10 c0_11 c0_12 c0_13 c0_14 c0_15 c0_16 c0_17
    replace LL:=Ab ((Aa LL).on hb)
    clear hb
    obtain⟨f0,c0_0,c0_1,c0_2,c0_3,c0_4,c0_5,c0_6,c0_7,c0_8,c0_9,c0_10,c0_11,c0_12,c0_13,c0_14,c0_15,c0_16,c0_17⟩:=(Aa LL).one
    dsimp only at f0 c0_0 c0_1 c0_2 c0_3 c0_4 c0_5 c0_6 c0_7 c0_8 c0_9 c0_10 c0_11 c0_12 c0_13 c0_14 c0_15 c0_16 c0_17
    cases ts
    ·go_wp2_with fail
     go_ret
     exact⟨rfl,(Aa LL).below⟩
    ·go_wp2_with fail
     go_ret
     exact⟨rfl,(Aa LL).below⟩
   ·go_wp2_with fail
    go_ret
    exact⟨rfl,(Aa LL).below⟩
  ·go_wp2_with ((go_at_call 106;refine(Ea _ _).mono ?_;rintro _ _ ⟨rfl,rfl⟩))
   refine(Aa HG _).mono ?_
   rintro _ w4 ⟨rfl,hb⟩
   clear f0 c0_0 c0_1 c0_2 c0_3 c0_4 c0_5 c0_6 c0_7 c0_8 c0_9 c0_10 c0_11 c0_12 c0_13 c0_14 c0_15 c0_16 c0_17
   replace LL:=Ab ((Aa LL).on hb)
   clear hb
   obtain⟨f0,c0_0,c0_1,c0_2,c0_3,c0_4,c0_5,c0_6,c0_7,c0_8,c0_9,c0_10,c0_11,c0_12,c0_13,c0_14,c0_15,c0_16,c0_17⟩:=(Aa LL).one
   dsimp only at f0 c0_0 c0_1 c0_2 c0_3 c0_4 c0_5 c0_6 c0_7 c0_8 c0_9 c0_10 c0_11 c0_12 c0_13 c0_14 c0_15 c0_16 c0_17
   cases tg
   ·go_wp2_with fail
    refine(Aa HS _).mono ?_
    rintro _ w5 ⟨rfl,hb⟩
    clear f0 c0_0 c0_1 c0_2 c0_3 c0_4 c0_5 c0_6 c0_7 c0_8 c0_9 c0_10 c0_11 c0_12 c0_13 c0_14 c0_15 c0_16 c0_17
    replace LL:=Ab ((Aa LL).on hb)
    clear hb
    obtain⟨f0,c0_0,c0_1,c0_2,c0_3,c0_4,c0_5,c0_6,c0_7,c0_8,c0_9,c0_10,c0_11,c0_12,c0_13,c0_14,c0_15,c0_16,c0_17⟩:=(Aa LL).one
    dsimp only at f0 c0_0 c0_1 c0_2 c0_3 c0_4 c0_5 c0_6 c0_7 c0_8 c0_9 c0_10 c0_11 c0_12 c0_13 c0_14 c0_15 c0_16 c0_17
    cases ts
    ·go_wp2_with fail
     go_ret
     exact⟨rfl,(Aa LL).below⟩
    ·go_wp2_with fail
     go_ret
     exact⟨rfl,(Aa LL).below⟩
   ·go_wp2_with fail
    go_ret
    exact⟨rfl,(Aa LL).below⟩
 ·go_wp2_with fail
  refine(Aa HG _).mono ?_
  rintro _ w6 ⟨rfl,hb⟩
  clear f0 c0_0 c0_1 c0_2 c0_3 c0_4 c0_5 c0_6 c0_7 c0_8 c0_9 c0_10 c0_11 c0_12 c0_13 c0_14 c0_15 c0_16 c0_17
  replace LL:=Ab ((Aa LL).on hb)
  clear hb
  obtain⟨f0,c0_0,c0_1,c0_2,c0_3,c0_4,c0_5,c0_6,c0_7,c0_8,c0_9,c0_10,c0_11,c0_12,c0_13,c0_14,c0_15,c0_16,c0_17⟩:=(Aa LL).one
  dsimp only at f0 c0_0 c0_1 c0_2 c0_3 c0_4 c0_5 c0_6 c0_7 c0_8 c0_9 c0_10 c0_11 c0_12 c0_13 c0_14 c0_15 c0_16 c0_17
  cases tg
  ·go_wp2_with fail
   refine(Aa HS _).mono ?_
   rintro _ w7 ⟨rfl,hb⟩
   clear f0 c0_0 c0_1 c0_2 c0_3 c0_4 c0_5 c0_6 c0_7 c0_8 c0_9 c0_10 c0_11 c0_12 c0_13 c0_14 c0_15 c0_16 c0_17
   replace LL:=Ab ((Aa LL).on hb)
   clear hb
   obtain⟨f0,c0_0,c0_1,c0_2,c0_3,c0_4,c0_5,c0_6,c0_7,c0_8,c0_9,c0_10,c0_11,c0_12,c0_13,c0_14,c0_15,c0_16,c0_17⟩:=(Aa LL).one
   dsimp only at f0 c0_0 c0_1 c0_2 c0_3 c0_4 c0_5 c0_6 c0_7 c0_8 c0_9 c0_10 c0_11 c0_12 c0_13 c0_14 c0_15 c0_16 c0_17
   cases ts
   ·go_wp2_with fail
    go_ret
    exact⟨rfl,(Aa LL).below⟩
   ·go_wp2_with fail
    go_ret
    exact⟨rfl,(Aa LL).below⟩
  ·go_wp2_with fail
   go_ret
   exact⟨rfl,(Aa LL).below⟩
theorem ZeH (d:DD) (hd:FD d) (w:World) (hT:Lib.Utf8Tabs 1 2 w):Calls Tryz.prog 77 #[d.agg] w fun e w'=>e= .returned (.bool (Kf d))/\Below w.heap.size w w':=by
 have HV:=Ab (Gl d.v hd.1)
 have HC:=Ab (fun w hT=>Mo d.v w hT)
 have HG:=Ab (fun w hT=>Vi d.g hd.2.1 w hT)
 have HS:=Ab (fun w hT=>Vi d.s hd.2.2 w hT)
 have HT:=Ab hT
 clear hd hT
 have L0:=Lie.new1 w (.D d)
 obtain⟨v,g,s,a,e,c⟩:=d
 unfold Kf
 unfold DD.agg
 unfold PB.obj DD.obj at L0
 unfold VV.agg at *
 dsimp only at *
 have LL:=Ab L0
 clear L0
 unfold Zau at HC
 generalize thV v=tv at *
 generalize VV.good v=gv at *
 generalize Nk g=cg at *
 generalize Nk s=cs at *
 generalize hta:Pi a=ta at *
 generalize hte:Pi e=te at *
 generalize htc:Pi c=tc at *
 go_enter Tryz.func77,Tryz.ntmps77
 go_wp2_with fail
 refine(Aa HV _).mono ?_
 rintro _ w1 ⟨rfl,hb⟩
 replace LL:=Ab ((Aa LL).on hb)
 clear hb
 obtain⟨f0,c0_0,c0_1,c0_2,c0_3,c0_4,c0_5,c0_6,c0_7,c0_8,c0_9,c0_10,c0_11,c0_12,c0_13,c0_14,c0_15,c0_16,c0_17⟩:=(Aa LL).one
 dsimp only at f0 c0_0 c0_1 c0_2 c0_3 c0_4 c0_5 c0_6 c0_7 c0_8 c0_9 c0_10 c0_11 c0_12 c0_13 c0_14 c0_15 c0_16 c0_17
 cases tv
 ·go_wp2_with fail
  refine(Aa HG _ (Au (Aa HT) (Aa LL).below)).mono ?_
  rintro _ w2 ⟨rfl,hb⟩
  clear f0 c0_0 c0_1 c0_2 c0_3 c0_4 c0_5 c0_6 c0_7 c0_8 c0_9 c0_10 c0_11 c0_12 c0_13 c0_14 c0_15 c0_16 c0_17
  replace LL:=Ab ((Aa LL).on hb)
  clear hb
  obtain⟨f0,c0_0,c0_1,c0_2,c0_3,c0_4,c0_5,c0_6,c0_7,c0_8,c0_9,c0_10,c0_11,c0_12,c0_13,c0_14,c0_15,c0_16,c0_17⟩:=(Aa LL).one
  dsimp only at f0 c0_0 c0_1 c0_2 c0_3 c0_4 c0_5 c0_6 c0_7 c0_8 c0_9 c0_10 c0_11 c0_12 c0_13 c0_14 c0_15 c0_16 c0_17
  cases cg
  ·go_wp2_with fail
   go_ret
   exact⟨rfl,(Aa LL).below⟩
  ·go_wp2_with fail
   refine(Aa HS _ (Au (Aa HT) (Aa LL).below)).mono ?_
   rintro _ w3 ⟨rfl,hb⟩
   clear f0 c0_0 c0_1 c0_2 c0_3 c0_4 c0_5 c0_6 c0_7 c0_8 c0_9 c0_10 c0_11 c0_12 c0_13 c0_14 c0_15 c0_16 c0_17
   replace LL:=Ab ((Aa LL).on hb)
   clear hb
   obtain⟨f0,c0_0,c0_1,c0_2,c0_3,c0_4,c0_5,c0_6,c0_7,c0_8,c0_9,c0_10,c0_11,c0_12,c0_13,c0_14,c0_15,c0_16,c0_17⟩:=(Aa LL).one
   dsimp only at f0 c0_0 c0_1 c0_2 c0_3 c0_4 c0_5 c0_6 c0_7 c0_8 c0_9 c0_10 c0_11 c0_12 c0_13 c0_14 c0_15 c0_16 c0_17
   cases cs
   ·go_wp2_with fail
    go_ret
    exact⟨rfl,(Aa LL).below⟩
   ·cases ta
    ·go_wp2_with ((go_at_call 105;refine(Gz _ _).mono ?_;rintro _ _ ⟨rfl,rfl⟩))
     go_ret
     exact⟨rfl,(Aa LL).below⟩
    ·cases te
     ·go_wp2_with ((go_at_call 105;refine(Gz _ _).mono ?_;rintro _ _ ⟨rfl,rfl⟩))
      go_ret
      exact⟨rfl,(Aa LL).below⟩
     ·go_wp2_with ((go_at_call 105;refine(Gz _ _).mono ?_;rintro _ _ ⟨rfl,rfl⟩))
      go_ret
      exact⟨rfl,(Aa LL).below⟩
 ·go_wp2_with fail
  refine(Aa HC _ (Au (Aa HT) (Aa LL).below)).mono ?_
  rintro _ w4 ⟨rfl,hb⟩
  clear f0 c0_0 c0_1 c0_2 c0_3 c0_4 c0_5 c0_6 c0_7 c0_8 c0_9 c0_10 c0_11 c0_12 c0_13 c0_14 c0_15 c0_16 c0_17
  replace LL:=Ab ((Aa LL).on hb)
  clear hb
  obtain⟨f0,c0_0,c0_1,c0_2,c0_3,c0_4,c0_5,c0_6,c0_7,c0_8,c0_9,c0_10,c0_11,c0_12,c0_13,c0_14,c0_15,c0_16,c0_17⟩:=(Aa LL).one
  dsimp only at f0 c0_0 c0_1 c0_2 c0_3 c0_4 c0_5 c0_6 c0_7 c0_8 c0_9 c0_10 c0_11 c0_12 c0_13 c0_14 c0_15 c0_16 c0_17
  cases gv
  ·go_wp2_with fail
   go_ret
   exact⟨rfl,(Aa LL).below⟩
  ·go_wp2_with fail
   refine(Aa HG _ (Au (Aa HT) (Aa LL).below)).mono ?_
   rintro _ w5 ⟨rfl,hb⟩
   clear f0 c0_0 c0_1 c0_2 c0_3 c0_4 c0_5 c0_6 c0_7 c0_8 c0_9 c0_10 c0_11 c0_12 c0_13 c0_14 c0_15 c0_16 c0_17
   replace LL:=Ab ((Aa LL).on hb)
   clear hb
   obtain⟨f0,c0_0,c0_1,c0_2,c0_3,c0_4,c0_5,c0_6,c0_7,c0_8,c0_9,c0_10,c0_11,c0_12,c0_13,c0_14,c0_15,c0_16,c0_17⟩:=(Aa LL).one
   dsimp only at f0 c0_0 c0_1 c0_2 c0_3 c0_4 c0_5 c0_6 c0_7 c0_8 c0_9 c0_10 c0_11 c0_12 c0_13 c0_14 c0_15 c0_16 c0_17
   cases cg
   ·go_wp2_with fail
    go_ret
    exact⟨rfl,(Aa LL).below⟩
   ·go_wp2_with fail
    refine(Aa HS _ (Au (Aa HT) (Aa LL).below)).mono ?_
    rintro _ w6 ⟨rfl,hb⟩
    clear f0 c0_0 c0_1 c0_2 c0_3 c0_4 c0_5 c0_6 c0_7 c0_8 c0_9 c0_10 c0_11 c0_12 c0_13 c0_14 c0_15 c0_16 c0_17
    replace LL:=Ab ((Aa LL).on hb)
    clear hb
    obtain⟨f0,c0_0,c0_1,c0_2,c0_3,c0_4,c0_5,c0_6,c0_7,c0_8,c0_9,c0_10,c0_11,c0_12,c0_13,c0_14,c0_15,c0_16,c0_17⟩:=(Aa LL).one
    dsimp only at f0 c0_0 c0_1 c0_2 c0_3 c0_4 c0_5 c0_6 c0_7 c0_8 c0_9 c0_10 c0_11 c0_12 c0_13 c0_14 c0_15 c0_16 c0_17
    cases cs
    ·go_wp2_with fail
     go_ret
     exact⟨rfl,(Aa LL).below⟩
    ·cases ta
     ·go_wp2_with ((go_at_call 105;refine(Gz _ _).mono ?_;rintro _ _ ⟨rfl,rfl⟩))
      go_ret
      exact⟨rfl,(Aa LL).below⟩
     ·cases te
      ·go_wp2_with ((go_at_call 105;refine(Gz _ _).mono ?_;rintro _ _ ⟨rfl,rfl⟩))
       go_ret
       exact⟨rfl,(Aa LL).below⟩
      ·go_wp2_with ((go_at_call 105;refine(Gz _ _).mono ?_;rintro _ _ ⟨rfl,rfl⟩))
       go_ret
       exact⟨rfl,(Aa LL).below⟩
end
section
open Go Go.Proofs Go.RowKit FM Tryz
def DD.cs (d:DD):List Value:= [.int .i64 d.v.k, .bool d.v.b, .float .f64 d.v.x, .string d.v.s, .int .i64 d.v.i, .int .i64 d.g.k, .bool d.g.b, .float .f64 d.g.x, .string d.g.s, .int .i64 d.g.i, .int .i64 d.s.k, .bool d.s.b, .float .f64 d.s.x, .string d.s.s, .int .i64 d.s.i, .int .i64 d.w, .int .i64 d.e, .int .i64 d.c]
def VV.cs (d:VV):List Value:= [.int .i64 d.k, .bool d.b, .float .f64 d.x, .string d.s, .int .i64 d.i]
theorem Lies.range {W:World} {B:Nat} {d:DD} (h:Lies W B d):W.rangeAt B 0 [.int .i64 d.v.k, .bool d.v.b, .float .f64 d.v.x, .string d.v.s, .int .i64 d.v.i, .int .i64 d.g.k, .bool d.g.b, .float .f64 d.g.x, .string d.g.s, .int .i64 d.g.i, .int .i64 d.s.k, .bool d.s.b, .float .f64 d.s.x, .string d.s.s, .int .i64 d.s.i, .int .i64 d.w, .int .i64 d.e, .int .i64 d.c]:=by
 intro j v hv
 obtain⟨-,h0,h1,h2,h3,h4,h5,h6,h7,h8,h9,h10,h11,h12,h13,h14,h15,h16,h17⟩:=h
 match j,hv with
 |0,hv=>exact(Option.some.inj hv)▸h0
 |1,hv=>exact(Option.some.inj hv)▸h1
 |2,hv=>exact(Option.some.inj hv)▸h2
 |3,hv=>exact(Option.some.inj hv)▸h3
 |4,hv=>exact(Option.some.inj hv)▸h4
 |5,hv=>exact(Option.some.inj hv)▸h5
 |6,hv=>exact(Option.some.inj hv)▸h6
 |7,hv=>exact(Option.some.inj hv)▸h7
 |8,hv=>exact(Option.some.inj hv)▸h8
 |9,hv=>exact(Option.some.inj hv)▸h9
 |10,hv=>exact(Option.some.inj hv)▸h10
 |11,hv=>exact(Option.some.inj hv)▸h11
 |12,hv=>exact(Option.some.inj hv)▸h12
 |13,hv=>exact(Option.some.inj hv)▸h13
 |14,hv=>exact(Option.some.inj hv)▸h14
 |15,hv=>exact(Option.some.inj hv)▸h15
 |16,hv=>exact(Option.some.inj hv)▸h16
 |17,hv=>exact(Option.some.inj hv)▸h17
 |_+18,hv=>exact absurd hv (by simp)
theorem Lies.rv {W:World} {B:Nat} {d:DD} (h:Lies W B d):W.rangeAt B 0 [.int .i64 d.v.k, .bool d.v.b, .float .f64 d.v.x, .string d.v.s, .int .i64 d.v.i]:=by
 intro j v hv
 obtain⟨-,h0,h1,h2,h3,h4,h5,h6,h7,h8,h9,h10,h11,h12,h13,h14,h15,h16,h17⟩:=h
 match j,hv with
 |0,hv=>exact(Option.some.inj hv)▸h0
 |1,hv=>exact(Option.some.inj hv)▸h1
 |2,hv=>exact(Option.some.inj hv)▸h2
 |3,hv=>exact(Option.some.inj hv)▸h3
 |4,hv=>exact(Option.some.inj hv)▸h4
 |_+5,hv=>exact absurd hv (by simp)
theorem Lies.rg {W:World} {B:Nat} {d:DD} (h:Lies W B d):W.rangeAt B 5 [.int .i64 d.g.k, .bool d.g.b, .float .f64 d.g.x, .string d.g.s, .int .i64 d.g.i]:=by
 intro j v hv
 obtain⟨-,h0,h1,h2,h3,h4,h5,h6,h7,h8,h9,h10,h11,h12,h13,h14,h15,h16,h17⟩:=h
 match j,hv with
 |0,hv=>exact(Option.some.inj hv)▸h5
 |1,hv=>exact(Option.some.inj hv)▸h6
 |2,hv=>exact(Option.some.inj hv)▸h7
 |3,hv=>exact(Option.some.inj hv)▸h8
 |4,hv=>exact(Option.some.inj hv)▸h9
 |_+5,hv=>exact absurd hv (by simp)
theorem Lies.rs {W:World} {B:Nat} {d:DD} (h:Lies W B d):W.rangeAt B 10 [.int .i64 d.s.k, .bool d.s.b, .float .f64 d.s.x, .string d.s.s, .int .i64 d.s.i]:=by
 intro j v hv
 obtain⟨-,h0,h1,h2,h3,h4,h5,h6,h7,h8,h9,h10,h11,h12,h13,h14,h15,h16,h17⟩:=h
 match j,hv with
 |0,hv=>exact(Option.some.inj hv)▸h10
 |1,hv=>exact(Option.some.inj hv)▸h11
 |2,hv=>exact(Option.some.inj hv)▸h12
 |3,hv=>exact(Option.some.inj hv)▸h13
 |4,hv=>exact(Option.some.inj hv)▸h14
 |_+5,hv=>exact absurd hv (by simp)
theorem Vr:(prog.info? 39).map (·.size)=some 18:=by kernel_rfl
theorem Zi: ∃d,prog.underlying 39=some d/\d.isRow=true:=⟨_,underlying39,rfl⟩
theorem Qu:(prog.info? 36).map (·.size)=some 5:=by kernel_rfl
theorem Qt: ∃d,prog.underlying 36=some d/\d.isRow=true:=⟨_,underlying36,rfl⟩
theorem Dg {ops:Array Oper} {rest:List Oper} {o:Oper} {a:Act} {w:World} {Q:Exit->Act->World->Prop} {x:Operand} {b:Nat} {d:DD} (hw:Region.wanted o (yielded ops a.tmps)=true) (ho:o.op= .load 39 x)
  (hx:a.eval x= .pointer (some ⟨b,0,none⟩)) (hc:Lies w b d) (h:wpList prog ops Q rest (a.put o.dst d.agg) w):wpList prog ops Q (o::rest) a w:=by
 obtain⟨t,hu,hd⟩:=Zi
 refine BigFrame.wpList_want hw fun K hK=> ?_
 exact wp_load_mid 39 x ho b 0 hx _ t hc.range hu hd Vr (hK _ _ h)
theorem Ze {ops:Array Oper} {rest:List Oper} {o:Oper} {a:Act} {w:World} {Q:Exit->Act->World->Prop} {x:Operand} {b:Nat} {d:DD} (hw:Region.wanted o (yielded ops a.tmps)=true) (ho:o.op= .load 36 x)
  (hx:a.eval x= .pointer (some ⟨b,0,none⟩)) (hc:Lies w b d) (h:wpList prog ops Q rest (a.put o.dst d.v.agg) w):wpList prog ops Q (o::rest) a w:=by
 obtain⟨t,hu,hd⟩:=Qt
 refine BigFrame.wpList_want hw fun K hK=> ?_
 exact wp_load_mid 36 x ho b 0 hx _ t hc.rv hu hd Qu (hK _ _ h)
theorem Zg {ops:Array Oper} {rest:List Oper} {o:Oper} {a:Act} {w:World} {Q:Exit->Act->World->Prop} {x:Operand} {b:Nat} {d:DD} (hw:Region.wanted o (yielded ops a.tmps)=true) (ho:o.op= .load 36 x)
  (hx:a.eval x= .pointer (some ⟨b,5,none⟩)) (hc:Lies w b d) (h:wpList prog ops Q rest (a.put o.dst d.g.agg) w):wpList prog ops Q (o::rest) a w:=by
 obtain⟨t,hu,hd⟩:=Qt
 refine BigFrame.wpList_want hw fun K hK=> ?_
 exact wp_load_mid 36 x ho b 5 hx _ t hc.rg hu hd Qu (hK _ _ h)
theorem Zf {ops:Array Oper} {rest:List Oper} {o:Oper} {a:Act} {w:World} {Q:Exit->Act->World->Prop} {x:Operand} {b:Nat} {d:DD} (hw:Region.wanted o (yielded ops a.tmps)=true) (ho:o.op= .load 36 x)
  (hx:a.eval x= .pointer (some ⟨b,10,none⟩)) (hc:Lies w b d) (h:wpList prog ops Q rest (a.put o.dst d.s.agg) w):wpList prog ops Q (o::rest) a w:=by
 obtain⟨t,hu,hd⟩:=Qt
 refine BigFrame.wpList_want hw fun K hK=> ?_
 exact wp_load_mid 36 x ho b 10 hx _ t hc.rs hu hd Qu (hK _ _ h)
theorem Kv {ops:Array Oper} {rest:List Oper} {o:Oper} {a:Act} {w:World} {Q:Exit->Act->World->Prop} {x:Operand} {b:Nat} {d:DD} (hw:Region.wanted o (yielded ops a.tmps)=true) (ho:o.op= .load 37 x)
  (hx:a.eval x= .pointer (some ⟨b,15,none⟩)) (hc:Lies w b d) (h:wpList prog ops Q rest (a.put o.dst (.int .i64 d.w)) w):wpList prog ops Q (o::rest) a w:=by
 obtain⟨-,h0,h1,h2,h3,h4,h5,h6,h7,h8,h9,h10,h11,h12,h13,h14,h15,h16,h17⟩:=hc
 refine BigFrame.wpList_want hw fun K hK=> ?_
 unfold Oper.wp execOp
 simp only[ho,hx]
 simp[go_sem,h15,isAgg37]
 exact hK _ _ h
theorem Ep {ops:Array Oper} {rest:List Oper} {o:Oper} {a:Act} {w:World} {Q:Exit->Act->World->Prop} {x:Operand} {b:Nat} {d:DD} (hw:Region.wanted o (yielded ops a.tmps)=true) (ho:o.op= .load 37 x)
  (hx:a.eval x= .pointer (some ⟨b,16,none⟩)) (hc:Lies w b d) (h:wpList prog ops Q rest (a.put o.dst (.int .i64 d.e)) w):wpList prog ops Q (o::rest) a w:=by
 obtain⟨-,h0,h1,h2,h3,h4,h5,h6,h7,h8,h9,h10,h11,h12,h13,h14,h15,h16,h17⟩:=hc
 refine BigFrame.wpList_want hw fun K hK=> ?_
 unfold Oper.wp execOp
 simp only[ho,hx]
 simp[go_sem,h16,isAgg37]
 exact hK _ _ h
theorem Ex {ops:Array Oper} {rest:List Oper} {o:Oper} {a:Act} {w:World} {Q:Exit->Act->World->Prop} {x:Operand} {b:Nat} {d:DD} (hw:Region.wanted o (yielded ops a.tmps)=true) (ho:o.op= .load 37 x)
  (hx:a.eval x= .pointer (some ⟨b,17,none⟩)) (hc:Lies w b d) (h:wpList prog ops Q rest (a.put o.dst (.int .i64 d.c)) w):wpList prog ops Q (o::rest) a w:=by
 obtain⟨-,h0,h1,h2,h3,h4,h5,h6,h7,h8,h9,h10,h11,h12,h13,h14,h15,h16,h17⟩:=hc
 refine BigFrame.wpList_want hw fun K hK=> ?_
 unfold Oper.wp execOp
 simp only[ho,hx]
 simp[go_sem,h17,isAgg37]
 exact hK _ _ h
end
section
open Go Go.Proofs Go.RowKit FM
theorem Mj {w W:World} {b:Nat} (hb:w.heap.size<=b): ∀(vs:List Value) (o:Nat) (W:World),Below w.heap.size w W->Below w.heap.size w (W.setCells b o vs)
 | [],_,_,h=>h
 |v::r,o,W,h=>Mj (W:=W) hb r (o+1) _ (h.setCell hb v)
theorem Mp {b:Nat}: ∀(vs:List Value) (o:Nat) (W:World),(W.setCells b o vs).heap.size=W.heap.size
 | [],_,_=>rfl
 |v::r,o,W=>by
  rw[World.setCells,Mp r (o+1)]
  simp
theorem PB.far {W:World} {B b o:Nat} {vs:List Value} {p:PB} (h:p.lies W B) (hne:B≠b):p.lies (W.setCells b o vs) B:=by
 cases p
 ·unfold PB.lies Lies at *
  simp only[World.frozen?_setCells,World.cell?_setCells_out b vs o W ⟨B,_,none⟩ (fun h1 _=>absurd h1 hne)]
  exact h
 ·unfold PB.lies VLies at *
  simp only[World.frozen?_setCells,World.cell?_setCells_out b vs o W ⟨B,_,none⟩ (fun h1 _=>absurd h1 hne)]
  exact h
theorem HoldsP.far {W:World} {b o:Nat} {vs:List Value}: ∀{l:List PB} {B:Nat},HoldsP W B l->b<B->HoldsP (W.setCells b o vs) B l
 | [],_,_,_=>trivial
 |_::_,_,h,hb=>⟨PB.far h.1 (by omega),HoldsP.far h.2 (by omega)⟩
theorem HoldsP.at {W:World}: ∀{l:List PB} {B i:Nat} {q:PB},HoldsP W B l->l[i]? =some q->q.lies W (B+i)
 |p::r,B,0,q,h,hi=>by
  obtain rfl:p=q:=by simpa using hi
  exact h.1
 |p::r,B,i+1,q,h,hi=>by
  have:=HoldsP.at h.2 (i:=i) (q:=q) (by simpa using hi)
  rw[Nat.add_right_comm] at this
  exact this
theorem HoldsP.set {W:World} {b o:Nat} {vs:List Value} {p q:PB} (hp:q.lies W b->p.lies (W.setCells b o vs) b): ∀{l:List PB} {B i:Nat},HoldsP W B l->b=B+i->l[i]? =some q->HoldsP (W.setCells b o vs) B (l.set i p)
 |q'::r,B,0,h,hb,hi=>by
  obtain rfl:b=B:=by omega
  obtain rfl:q'=q:=by simpa using hi
  exact⟨hp h.1,HoldsP.far h.2 (by omega)⟩
 |q'::r,B,i+1,h,hb,hi=>⟨PB.far h.1 (by omega),HoldsP.set hp h.2 (by omega) (by simpa using hi)⟩
theorem Lie.put {w W:World} {l:List PB} {i o:Nat} {vs:List Value} {p q:PB} (h:Lie w W l) (hi:l[i]? =some q) (hp:q.lies W (w.heap.size+i)->p.lies (W.setCells (w.heap.size+i) o vs) (w.heap.size+i)):
  Lie w (W.setCells (w.heap.size+i) o vs) (l.set i p):=
 ⟨Mj (W:=W) (Nat.le_add_right _ _) _ _ _ h.below,by rw[Mp,List.length_set];exact h.size,h.holds.set hp rfl hi⟩
theorem Dl {W:World} {b o j:Nat} {vs:List Value} {v:Value} (hs: ∀j,j<vs.length->(W.cell? ⟨b,o+j,none⟩).isSome=true) (hv:vs[j]? =some v):(W.setCells b o vs).cell? ⟨b,o+j,none⟩=some v:=by
 obtain⟨hj,e⟩:=List.getElem?_eq_some_iff.1 hv
 rw[World.cell?_setCells_in b vs o W hs j hj,e]
theorem Ap {W:World} {b o j:Nat} {vs:List Value} (hj:j<o∨o+vs.length<=j):(W.setCells b o vs).cell? ⟨b,j,none⟩=W.cell? ⟨b,j,none⟩:=
 World.cell?_setCells_out b vs o W ⟨b,j,none⟩ (fun _ _=>hj)
theorem Lies.setD {W:World} {B:Nat} {d:DD} {d':DD} (h:Lies W B d):Lies (W.setCells B 0 d'.cs) B d':=by
 obtain⟨f,h0,h1,h2,h3,h4,h5,h6,h7,h8,h9,h10,h11,h12,h13,h14,h15,h16,h17⟩:=h
 have hs: ∀j,j<18->(W.cell? ⟨B,0+j,none⟩).isSome=true:=by
  intro j hj
  match j,hj with
  |0,_=>exact h0▸rfl
  |1,_=>exact h1▸rfl
  |2,_=>exact h2▸rfl
  |3,_=>exact h3▸rfl
  |4,_=>exact h4▸rfl
  |5,_=>exact h5▸rfl
  |6,_=>exact h6▸rfl
  |7,_=>exact h7▸rfl
  |8,_=>exact h8▸rfl
  |9,_=>exact h9▸rfl
  |10,_=>exact h10▸rfl
  |11,_=>exact h11▸rfl
  |12,_=>exact h12▸rfl
  |13,_=>exact h13▸rfl
  |14,_=>exact h14▸rfl
  |15,_=>exact h15▸rfl
  |16,_=>exact h16▸rfl
  |17,_=>exact h17▸rfl
  |j+18,hj=>exact absurd hj (by omega)
 refine⟨fun j=>(World.frozen?_setCells _ _ _ _ _).trans (f j), ?_, ?_, ?_, ?_, ?_, ?_, ?_, ?_, ?_, ?_, ?_, ?_, ?_, ?_, ?_, ?_, ?_, ?_⟩
 ·exact Dl (o:=0) (j:=0) hs rfl
 ·exact Dl (o:=0) (j:=1) hs rfl
 ·exact Dl (o:=0) (j:=2) hs rfl
 ·exact Dl (o:=0) (j:=3) hs rfl
 ·exact Dl (o:=0) (j:=4) hs rfl
 ·exact Dl (o:=0) (j:=5) hs rfl
 ·exact Dl (o:=0) (j:=6) hs rfl
 ·exact Dl (o:=0) (j:=7) hs rfl
 ·exact Dl (o:=0) (j:=8) hs rfl
 ·exact Dl (o:=0) (j:=9) hs rfl
 ·exact Dl (o:=0) (j:=10) hs rfl
 ·exact Dl (o:=0) (j:=11) hs rfl
 ·exact Dl (o:=0) (j:=12) hs rfl
 ·exact Dl (o:=0) (j:=13) hs rfl
 ·exact Dl (o:=0) (j:=14) hs rfl
 ·exact Dl (o:=0) (j:=15) hs rfl
 ·exact Dl (o:=0) (j:=16) hs rfl
 ·exact Dl (o:=0) (j:=17) hs rfl
theorem Lies.setv {W:World} {B:Nat} {d:DD} {u:VV} (h:Lies W B d):Lies (W.setCells B 0 u.cs) B {d with v:=u}:=by
 obtain⟨f,h0,h1,h2,h3,h4,h5,h6,h7,h8,h9,h10,h11,h12,h13,h14,h15,h16,h17⟩:=h
 have hs: ∀j,j<5->(W.cell? ⟨B,0+j,none⟩).isSome=true:=by
  intro j hj
  match j,hj with
  |0,_=>exact h0▸rfl
  |1,_=>exact h1▸rfl
  |2,_=>exact h2▸rfl
  |3,_=>exact h3▸rfl
  |4,_=>exact h4▸rfl
  |j+5,hj=>exact absurd hj (by omega)
 refine⟨fun j=>(World.frozen?_setCells _ _ _ _ _).trans (f j), ?_, ?_, ?_, ?_, ?_, ?_, ?_, ?_, ?_, ?_, ?_, ?_, ?_, ?_, ?_, ?_, ?_, ?_⟩
 ·exact Dl (o:=0) (j:=0) hs rfl
 ·exact Dl (o:=0) (j:=1) hs rfl
 ·exact Dl (o:=0) (j:=2) hs rfl
 ·exact Dl (o:=0) (j:=3) hs rfl
 ·exact Dl (o:=0) (j:=4) hs rfl
 ·exact(Ap (by simp[VV.cs])).trans h5
 ·exact(Ap (by simp[VV.cs])).trans h6
 ·exact(Ap (by simp[VV.cs])).trans h7
 ·exact(Ap (by simp[VV.cs])).trans h8
 ·exact(Ap (by simp[VV.cs])).trans h9
 ·exact(Ap (by simp[VV.cs])).trans h10
 ·exact(Ap (by simp[VV.cs])).trans h11
 ·exact(Ap (by simp[VV.cs])).trans h12
 ·exact(Ap (by simp[VV.cs])).trans h13
 ·exact(Ap (by simp[VV.cs])).trans h14
 ·exact(Ap (by simp[VV.cs])).trans h15
 ·exact(Ap (by simp[VV.cs])).trans h16
 ·exact(Ap (by simp[VV.cs])).trans h17
theorem Lies.setg {W:World} {B:Nat} {d:DD} {u:VV} (h:Lies W B d):Lies (W.setCells B 5 u.cs) B {d with g:=u}:=by
 obtain⟨f,h0,h1,h2,h3,h4,h5,h6,h7,h8,h9,h10,h11,h12,h13,h14,h15,h16,h17⟩:=h
 have hs: ∀j,j<5->(W.cell? ⟨B,5+j,none⟩).isSome=true:=by
  intro j hj
  match j,hj with
  |0,_=>exact h5▸rfl
  |1,_=>exact h6▸rfl
  |2,_=>exact h7▸rfl
  |3,_=>exact h8▸rfl
  |4,_=>exact h9▸rfl
  |j+5,hj=>exact absurd hj (by omega)
 refine⟨fun j=>(World.frozen?_setCells _ _ _ _ _).trans (f j), ?_, ?_, ?_, ?_, ?_, ?_, ?_, ?_, ?_, ?_, ?_, ?_, ?_, ?_, ?_, ?_, ?_, ?_⟩
 ·exact(Ap (by simp[VV.cs])).trans h0
 ·exact(Ap (by simp[VV.cs])).trans h1
 ·exact(Ap (by simp[VV.cs])).trans h2
 ·exact(Ap (by simp[VV.cs])).trans h3
 ·exact(Ap (by simp[VV.cs])).trans h4
 ·exact Dl (o:=5) (j:=0) hs rfl
 ·exact Dl (o:=5) (j:=1) hs rfl
 ·exact Dl (o:=5) (j:=2) hs rfl
 ·exact Dl (o:=5) (j:=3) hs rfl
 ·exact Dl (o:=5) (j:=4) hs rfl
 ·exact(Ap (by simp[VV.cs])).trans h10
 ·exact(Ap (by simp[VV.cs])).trans h11
 ·exact(Ap (by simp[VV.cs])).trans h12
 ·exact(Ap (by simp[VV.cs])).trans h13
 ·exact(Ap (by simp[VV.cs])).trans h14
 ·exact(Ap (by simp[VV.cs])).trans h15
 ·exact(Ap (by simp[VV.cs])).trans h16
 ·exact(Ap (by simp[VV.cs])).trans h17
theorem Lies.sets {W:World} {B:Nat} {d:DD} {u:VV} (h:Lies W B d):Lies (W.setCells B 10 u.cs) B {d with s:=u}:=by
 obtain⟨f,h0,h1,h2,h3,h4,h5,h6,h7,h8,h9,h10,h11,h12,h13,h14,h15,h16,h17⟩:=h
 have hs: ∀j,j<5->(W.cell? ⟨B,10+j,none⟩).isSome=true:=by
  intro j hj
  match j,hj with
  |0,_=>exact h10▸rfl
  |1,_=>exact h11▸rfl
  |2,_=>exact h12▸rfl
  |3,_=>exact h13▸rfl
  |4,_=>exact h14▸rfl
  |j+5,hj=>exact absurd hj (by omega)
 refine⟨fun j=>(World.frozen?_setCells _ _ _ _ _).trans (f j), ?_, ?_, ?_, ?_, ?_, ?_, ?_, ?_, ?_, ?_, ?_, ?_, ?_, ?_, ?_, ?_, ?_, ?_⟩
 ·exact(Ap (by simp[VV.cs])).trans h0
 ·exact(Ap (by simp[VV.cs])).trans h1
 ·exact(Ap (by simp[VV.cs])).trans h2
 ·exact(Ap (by simp[VV.cs])).trans h3
 ·exact(Ap (by simp[VV.cs])).trans h4
 ·exact(Ap (by simp[VV.cs])).trans h5
 ·exact(Ap (by simp[VV.cs])).trans h6
 ·exact(Ap (by simp[VV.cs])).trans h7
 ·exact(Ap (by simp[VV.cs])).trans h8
 ·exact(Ap (by simp[VV.cs])).trans h9
 ·exact Dl (o:=10) (j:=0) hs rfl
 ·exact Dl (o:=10) (j:=1) hs rfl
 ·exact Dl (o:=10) (j:=2) hs rfl
 ·exact Dl (o:=10) (j:=3) hs rfl
 ·exact Dl (o:=10) (j:=4) hs rfl
 ·exact(Ap (by simp[VV.cs])).trans h15
 ·exact(Ap (by simp[VV.cs])).trans h16
 ·exact(Ap (by simp[VV.cs])).trans h17
theorem Lies.setw {W:World} {B:Nat} {d:DD} {n:Int} (h:Lies W B d):Lies (W.setCells B 15 [.int .i64 n]) B {d with w:=n}:=by
 obtain⟨f,h0,h1,h2,h3,h4,h5,h6,h7,h8,h9,h10,h11,h12,h13,h14,h15,h16,h17⟩:=h
 have hs: ∀j,j<1->(W.cell? ⟨B,15+j,none⟩).isSome=true:=by
  intro j hj
  match j,hj with
  |0,_=>exact h15▸rfl
  |j+1,hj=>exact absurd hj (by omega)
 refine⟨fun j=>(World.frozen?_setCells _ _ _ _ _).trans (f j), ?_, ?_, ?_, ?_, ?_, ?_, ?_, ?_, ?_, ?_, ?_, ?_, ?_, ?_, ?_, ?_, ?_, ?_⟩
 ·exact(Ap (by simp[VV.cs])).trans h0
 ·exact(Ap (by simp[VV.cs])).trans h1
 ·exact(Ap (by simp[VV.cs])).trans h2
 ·exact(Ap (by simp[VV.cs])).trans h3
 ·exact(Ap (by simp[VV.cs])).trans h4
 ·exact(Ap (by simp[VV.cs])).trans h5
 ·exact(Ap (by simp[VV.cs])).trans h6
 ·exact(Ap (by simp[VV.cs])).trans h7
 ·exact(Ap (by simp[VV.cs])).trans h8
 ·exact(Ap (by simp[VV.cs])).trans h9
 ·exact(Ap (by simp[VV.cs])).trans h10
 ·exact(Ap (by simp[VV.cs])).trans h11
 ·exact(Ap (by simp[VV.cs])).trans h12
 ·exact(Ap (by simp[VV.cs])).trans h13
 ·exact(Ap (by simp[VV.cs])).trans h14
 ·exact Dl (o:=15) (j:=0) hs rfl
 ·exact(Ap (by simp[VV.cs])).trans h16
 ·exact(Ap (by simp[VV.cs])).trans h17
theorem Lies.sete {W:World} {B:Nat} {d:DD} {n:Int} (h:Lies W B d):Lies (W.setCells B 16 [.int .i64 n]) B {d with e:=n}:=by
 obtain⟨f,h0,h1,h2,h3,h4,h5,h6,h7,h8,h9,h10,h11,h12,h13,h14,h15,h16,h17⟩:=h
 have hs: ∀j,j<1->(W.cell? ⟨B,16+j,none⟩).isSome=true:=by
  intro j hj
  match j,hj with
  |0,_=>exact h16▸rfl
  |j+1,hj=>exact absurd hj (by omega)
 refine⟨fun j=>(World.frozen?_setCells _ _ _ _ _).trans (f j), ?_, ?_, ?_, ?_, ?_, ?_, ?_, ?_, ?_, ?_, ?_, ?_, ?_, ?_, ?_, ?_, ?_, ?_⟩
 ·exact(Ap (by simp[VV.cs])).trans h0
 ·exact(Ap (by simp[VV.cs])).trans h1
 ·exact(Ap (by simp[VV.cs])).trans h2
 ·exact(Ap (by simp[VV.cs])).trans h3
 ·exact(Ap (by simp[VV.cs])).trans h4
 ·exact(Ap (by simp[VV.cs])).trans h5
 ·exact(Ap (by simp[VV.cs])).trans h6
 ·exact(Ap (by simp[VV.cs])).trans h7
 ·exact(Ap (by simp[VV.cs])).trans h8
 ·exact(Ap (by simp[VV.cs])).trans h9
 ·exact(Ap (by simp[VV.cs])).trans h10
 ·exact(Ap (by simp[VV.cs])).trans h11
 ·exact(Ap (by simp[VV.cs])).trans h12
 ·exact(Ap (by simp[VV.cs])).trans h13
 ·exact(Ap (by simp[VV.cs])).trans h14
 ·exact(Ap (by simp[VV.cs])).trans h15
 ·exact Dl (o:=16) (j:=0) hs rfl
 ·exact(Ap (by simp[VV.cs])).trans h17
theorem Lies.setc {W:World} {B:Nat} {d:DD} {n:Int} (h:Lies W B d):Lies (W.setCells B 17 [.int .i64 n]) B {d with c:=n}:=by
 obtain⟨f,h0,h1,h2,h3,h4,h5,h6,h7,h8,h9,h10,h11,h12,h13,h14,h15,h16,h17⟩:=h
 have hs: ∀j,j<1->(W.cell? ⟨B,17+j,none⟩).isSome=true:=by
  intro j hj
  match j,hj with
  |0,_=>exact h17▸rfl
  |j+1,hj=>exact absurd hj (by omega)
 refine⟨fun j=>(World.frozen?_setCells _ _ _ _ _).trans (f j), ?_, ?_, ?_, ?_, ?_, ?_, ?_, ?_, ?_, ?_, ?_, ?_, ?_, ?_, ?_, ?_, ?_, ?_⟩
 ·exact(Ap (by simp[VV.cs])).trans h0
 ·exact(Ap (by simp[VV.cs])).trans h1
 ·exact(Ap (by simp[VV.cs])).trans h2
 ·exact(Ap (by simp[VV.cs])).trans h3
 ·exact(Ap (by simp[VV.cs])).trans h4
 ·exact(Ap (by simp[VV.cs])).trans h5
 ·exact(Ap (by simp[VV.cs])).trans h6
 ·exact(Ap (by simp[VV.cs])).trans h7
 ·exact(Ap (by simp[VV.cs])).trans h8
 ·exact(Ap (by simp[VV.cs])).trans h9
 ·exact(Ap (by simp[VV.cs])).trans h10
 ·exact(Ap (by simp[VV.cs])).trans h11
 ·exact(Ap (by simp[VV.cs])).trans h12
 ·exact(Ap (by simp[VV.cs])).trans h13
 ·exact(Ap (by simp[VV.cs])).trans h14
 ·exact(Ap (by simp[VV.cs])).trans h15
 ·exact(Ap (by simp[VV.cs])).trans h16
 ·exact Dl (o:=17) (j:=0) hs rfl
theorem Lies.setstr {W:World} {B:Nat} {d:DD} {n:ByteArray} (h:Lies W B d):Lies (W.setCells B 3 [.string n]) B {d with v:={d.v with s:=n}}:=by
 obtain⟨f,h0,h1,h2,h3,h4,h5,h6,h7,h8,h9,h10,h11,h12,h13,h14,h15,h16,h17⟩:=h
 have hs: ∀j,j<1->(W.cell? ⟨B,3+j,none⟩).isSome=true:=by
  intro j hj
  match j,hj with
  |0,_=>exact h3▸rfl
  |j+1,hj=>exact absurd hj (by omega)
 refine⟨fun j=>(World.frozen?_setCells _ _ _ _ _).trans (f j), ?_, ?_, ?_, ?_, ?_, ?_, ?_, ?_, ?_, ?_, ?_, ?_, ?_, ?_, ?_, ?_, ?_, ?_⟩
 ·exact(Ap (by simp[VV.cs])).trans h0
 ·exact(Ap (by simp[VV.cs])).trans h1
 ·exact(Ap (by simp[VV.cs])).trans h2
 ·exact Dl (o:=3) (j:=0) hs rfl
 ·exact(Ap (by simp[VV.cs])).trans h4
 ·exact(Ap (by simp[VV.cs])).trans h5
 ·exact(Ap (by simp[VV.cs])).trans h6
 ·exact(Ap (by simp[VV.cs])).trans h7
 ·exact(Ap (by simp[VV.cs])).trans h8
 ·exact(Ap (by simp[VV.cs])).trans h9
 ·exact(Ap (by simp[VV.cs])).trans h10
 ·exact(Ap (by simp[VV.cs])).trans h11
 ·exact(Ap (by simp[VV.cs])).trans h12
 ·exact(Ap (by simp[VV.cs])).trans h13
 ·exact(Ap (by simp[VV.cs])).trans h14
 ·exact(Ap (by simp[VV.cs])).trans h15
 ·exact(Ap (by simp[VV.cs])).trans h16
 ·exact(Ap (by simp[VV.cs])).trans h17
end
section
open Go Go.Proofs Go.RowKit FM Tryz
theorem Lies.there {W:World} {B:Nat} {d:DD} (h:Lies W B d):W.there B 0 18:=by
 obtain⟨f,h0,h1,h2,h3,h4,h5,h6,h7,h8,h9,h10,h11,h12,h13,h14,h15,h16,h17⟩:=h
 intro j hj
 match j,hj with
 |0,_=>exact⟨h0▸rfl,f _⟩
 |1,_=>exact⟨h1▸rfl,f _⟩
 |2,_=>exact⟨h2▸rfl,f _⟩
 |3,_=>exact⟨h3▸rfl,f _⟩
 |4,_=>exact⟨h4▸rfl,f _⟩
 |5,_=>exact⟨h5▸rfl,f _⟩
 |6,_=>exact⟨h6▸rfl,f _⟩
 |7,_=>exact⟨h7▸rfl,f _⟩
 |8,_=>exact⟨h8▸rfl,f _⟩
 |9,_=>exact⟨h9▸rfl,f _⟩
 |10,_=>exact⟨h10▸rfl,f _⟩
 |11,_=>exact⟨h11▸rfl,f _⟩
 |12,_=>exact⟨h12▸rfl,f _⟩
 |13,_=>exact⟨h13▸rfl,f _⟩
 |14,_=>exact⟨h14▸rfl,f _⟩
 |15,_=>exact⟨h15▸rfl,f _⟩
 |16,_=>exact⟨h16▸rfl,f _⟩
 |17,_=>exact⟨h17▸rfl,f _⟩
 |j+18,hj=>exact absurd hj (by omega)
theorem Ks {ops:Array Oper} {rest:List Oper} {o:Oper} {a:Act} {w w0:World} {Q:Exit->Act->World->Prop} {x y:Operand} {l:List PB} (i:Nat) {d:DD} {u:DD} (hw:Region.wanted o (yielded ops a.tmps)=true) (ho:o.op= .store 39 x y) (hL:Lie w0 w l) (hi:l[i]? =some (.D d))
  (hx:a.eval x= .pointer (some ⟨w0.heap.size+i,0,none⟩)) (hy:a.eval y=u.agg) (h: ∀X,Lie w0 X (l.set i (.D u))->wpList prog ops Q rest (a.put o.dst undef) X):wpList prog ops Q (o::rest) a w:=by
 refine BigFrame.wpList_want hw fun K hK=> ?_
 have hc:=hL.holds.at hi
 exact wp_store_mid 39 x y ho _ 0 u.cs.toArray hx hy (Lies.there hc) Vr (by simp[DD.cs,VV.cs,Value.oneCell']) (hK _ _ (h _ (hL.put hi fun hq=>Lies.setD hq)))
theorem Uk {W:World} {b j:Nat} {v c:Value} {m:Mode} (hc:W.cell? ⟨b,j,none⟩=some c) (hf:W.frozen? ⟨b,j,none⟩=false):stored prog W ⟨b,j,none⟩ v m= .ok () (W.setCells b j [v]):=by
 unfold stored
 rw[hc]
 simp[hf,World.setCells]
theorem store25w {ops:Array Oper} {rest:List Oper} {o:Oper} {a:Act} {w w0:World} {Q:Exit->Act->World->Prop} {x y:Operand} {l:List PB} (i:Nat) {d:DD} {n:Int} (hw:Region.wanted o (yielded ops a.tmps)=true) (ho:o.op= .store 37 x y) (hL:Lie w0 w l) (hi:l[i]? =some (.D d))
  (hx:a.eval x= .pointer (some ⟨w0.heap.size+i,15,none⟩)) (hy:a.eval y= .int .i64 n) (h: ∀X,Lie w0 X (l.set i (.D {d with w:=n}))->wpList prog ops Q rest (a.put o.dst undef) X):wpList prog ops Q (o::rest) a w:=by
 refine BigFrame.wpList_want hw fun K hK=> ?_
 have hc:=hL.holds.at hi
 have hP:=hK _ _ (h _ (hL.put hi fun hq=>Lies.setw (n:=n) hq))
 obtain⟨f,h0,h1,h2,h3,h4,h5,h6,h7,h8,h9,h10,h11,h12,h13,h14,h15,h16,h17⟩:=hc
 have hs: ∀m,stored prog w ⟨w0.heap.size+i,15,none⟩ (.int .i64 n) m= .ok () (w.setCells (w0.heap.size+i) 15 [.int .i64 n]):=fun m=>Uk h15 (f _)
 unfold Oper.wp execOp
 simp only[ho,hx,hy]
 simp only[go_sem] at hs
 simp[go_sem,Tryz.sizeOf37]
 simp[hs]
 exact hP
theorem Zm {ops:Array Oper} {rest:List Oper} {o:Oper} {a:Act} {w w0:World} {Q:Exit->Act->World->Prop} {x y:Operand} {l:List PB} (i:Nat) {d:DD} {n:Int} (hw:Region.wanted o (yielded ops a.tmps)=true) (ho:o.op= .store 37 x y) (hL:Lie w0 w l) (hi:l[i]? =some (.D d))
  (hx:a.eval x= .pointer (some ⟨w0.heap.size+i,16,none⟩)) (hy:a.eval y= .int .i64 n) (h: ∀X,Lie w0 X (l.set i (.D {d with e:=n}))->wpList prog ops Q rest (a.put o.dst undef) X):wpList prog ops Q (o::rest) a w:=by
 refine BigFrame.wpList_want hw fun K hK=> ?_
 have hc:=hL.holds.at hi
 have hP:=hK _ _ (h _ (hL.put hi fun hq=>Lies.sete (n:=n) hq))
 obtain⟨f,h0,h1,h2,h3,h4,h5,h6,h7,h8,h9,h10,h11,h12,h13,h14,h15,h16,h17⟩:=hc
 have hs: ∀m,stored prog w ⟨w0.heap.size+i,16,none⟩ (.int .i64 n) m= .ok () (w.setCells (w0.heap.size+i) 16 [.int .i64 n]):=fun m=>Uk h16 (f _)
 unfold Oper.wp execOp
 simp only[ho,hx,hy]
 simp only[go_sem] at hs
 simp[go_sem,Tryz.sizeOf37]
 simp[hs]
 exact hP
theorem Zn {ops:Array Oper} {rest:List Oper} {o:Oper} {a:Act} {w w0:World} {Q:Exit->Act->World->Prop} {x y:Operand} {l:List PB} (i:Nat) {d:DD} {n:Int} (hw:Region.wanted o (yielded ops a.tmps)=true) (ho:o.op= .store 37 x y) (hL:Lie w0 w l) (hi:l[i]? =some (.D d))
  (hx:a.eval x= .pointer (some ⟨w0.heap.size+i,17,none⟩)) (hy:a.eval y= .int .i64 n) (h: ∀X,Lie w0 X (l.set i (.D {d with c:=n}))->wpList prog ops Q rest (a.put o.dst undef) X):wpList prog ops Q (o::rest) a w:=by
 refine BigFrame.wpList_want hw fun K hK=> ?_
 have hc:=hL.holds.at hi
 have hP:=hK _ _ (h _ (hL.put hi fun hq=>Lies.setc (n:=n) hq))
 obtain⟨f,h0,h1,h2,h3,h4,h5,h6,h7,h8,h9,h10,h11,h12,h13,h14,h15,h16,h17⟩:=hc
 have hs: ∀m,stored prog w ⟨w0.heap.size+i,17,none⟩ (.int .i64 n) m= .ok () (w.setCells (w0.heap.size+i) 17 [.int .i64 n]):=fun m=>Uk h17 (f _)
 unfold Oper.wp execOp
 simp only[ho,hx,hy]
 simp only[go_sem] at hs
 simp[go_sem,Tryz.sizeOf37]
 simp[hs]
 exact hP
theorem store9 {ops:Array Oper} {rest:List Oper} {o:Oper} {a:Act} {w w0:World} {Q:Exit->Act->World->Prop} {x y:Operand} {l:List PB} (i:Nat) {d:DD} {n:ByteArray} (hw:Region.wanted o (yielded ops a.tmps)=true) (ho:o.op= .store 9 x y) (hL:Lie w0 w l) (hi:l[i]? =some (.D d))
  (hx:a.eval x= .pointer (some ⟨w0.heap.size+i,3,none⟩)) (hy:a.eval y= .string n) (h: ∀X,Lie w0 X (l.set i (.D {d with v:={d.v with s:=n}}))->wpList prog ops Q rest (a.put o.dst undef) X):wpList prog ops Q (o::rest) a w:=by
 refine BigFrame.wpList_want hw fun K hK=> ?_
 have hc:=hL.holds.at hi
 have hP:=hK _ _ (h _ (hL.put hi fun hq=>Lies.setstr (n:=n) hq))
 obtain⟨f,h0,h1,h2,h3,h4,h5,h6,h7,h8,h9,h10,h11,h12,h13,h14,h15,h16,h17⟩:=hc
 have hs: ∀m,stored prog w ⟨w0.heap.size+i,3,none⟩ (.string n) m= .ok () (w.setCells (w0.heap.size+i) 3 [.string n]):=fun m=>Uk h3 (f _)
 unfold Oper.wp execOp
 simp only[ho,hx,hy]
 simp only[go_sem] at hs
 simp[go_sem,Tryz.sizeOf9]
 simp[hs]
 exact hP
theorem Zch {fn:Func} {R:Ending->World->Prop} {a:Act} {w:World} {b r:Nat} {d:DD} (hr:fn.results= #[.cell r 39]) (hdf:a.defers= [])
  (hx:a.tmps.getD r undef= .pointer (some ⟨b,0,none⟩)) (hc:Lies w b d) (h:R (.returned (d.agg)) w):bodyPost prog fn R .ret a w:=by
 obtain⟨t,hu,hd⟩:=Zi
 have hl:=run_loadVar_mid (P:=prog) w b 0 39 _ t hc.range hu hd Vr
 refine⟨hdf,_, ?_,h⟩
 simp only[Array.getD_eq_getD_getElem?] at hx
 unfold results
 simp[hr,hx,hl,asAddr]
 try rfl
theorem Ol {fn:Func} {R:Ending->World->Prop} {a:Act} {w:World} {b r:Nat} {d:DD} {t t2:Nat} {v v2:Value} (hr:fn.results= #[.cell r 39, .tmp t, .tmp t2]) (hdf:a.defers= [])
  (hx:a.tmps.getD r undef= .pointer (some ⟨b,0,none⟩)) (hv:a.tmps.getD t undef=v) (hv2:a.tmps.getD t2 undef=v2) (hc:Lies w b d) (h:R (.returned (.tuple #[d.agg,v,v2])) w):bodyPost prog fn R .ret a w:=by
 obtain⟨t,hu,hd⟩:=Zi
 have hl:=run_loadVar_mid (P:=prog) w b 0 39 _ t hc.range hu hd Vr
 refine⟨hdf,_, ?_,h⟩
 simp only[Array.getD_eq_getD_getElem?] at hx hv hv2
 unfold results
 simp[hr,hx,hl,asAddr,hv,hv2]
 try rfl
def noV (d:DD):Bool:=Di d==1 && !(d.e !=0) && !(d.c !=0)
def stV (d:DD):Bool:=noV d||wholeV d
def Gb (d:DD):Int:=if Jm d==0 then 5 else 0
theorem Zac (d:DD) (hd:FD d) (w:World) (hT:Lib.Utf8Tabs 1 2 w):Calls prog 54 #[d.agg] w fun e w'=>e= .returned (.int .i64 (Jm d))/\Below w.heap.size w w':=by
 have HA:=Ab (fun w hT=>ZeH d hd w hT)
 have HB:=Ab (Df d hd)
 have HT:=Ab hT
 clear hT
 clear hd
 have LL:=Ab (Lie.new1 w (.D d))
 unfold Jm
 generalize Kf d=so at *
 generalize Di d=sh at *
 have hq0:=Jc d
 rw[hq0]
 clear hq0
 go_enter func54,ntmps54
 go_wp2_with (((with_reducible apply Dg);(case ho=>rfl);(case hx=>rfl);(case hw=>rfl);(case hc=>first|exact(Aa LL).one);simp only[nn]))
 refine(Aa HA _ (Au (Aa HT) (Aa LL).below)).mono ?_
 rintro _ w1 ⟨rfl,hb⟩
 replace LL:=Ab ((Aa LL).on hb)
 clear hb
 cases so
 ·go_wp2_with fail
  go_ret
  exact⟨rfl,(Aa LL).below⟩
 ·go_wp2_with (((with_reducible apply Dg);(case ho=>rfl);(case hx=>rfl);(case hw=>rfl);(case hc=>first|exact(Aa LL).one);simp only[nn]))
  refine(Aa HB _).mono ?_
  rintro _ w2 ⟨rfl,hb⟩
  replace LL:=Ab ((Aa LL).on hb)
  clear hb
  go_wp2_with fail
  go_ret
  exact⟨rfl,(Aa LL).below⟩
theorem Vh (d:DD) (hd:FD d) (w:World) (hT:Lib.Utf8Tabs 1 2 w):Calls prog 31 #[d.agg] w fun e w'=>e= .returned (.int .i64 (Gb d))/\Below w.heap.size w w':=by
 have HK:=Ab (fun w hT=>Zac d hd w hT)
 have HT:=Ab hT
 clear hT
 clear hd
 have LL:=Ab (Lie.new1 w (.D d))
 unfold Gb
 generalize Jm d=k at *
 have hq0:=Jc d
 rw[hq0]
 clear hq0
 by_cases hk:k=0
 ·subst hk
  go_enter func31,ntmps31
  go_wp2_with (((with_reducible apply Dg);(case ho=>rfl);(case hx=>rfl);(case hw=>rfl);(case hc=>first|exact(Aa LL).one);simp only[nn]))
  refine(Aa HK _ (Au (Aa HT) (Aa LL).below)).mono ?_
  rintro _ w3 ⟨rfl,hb⟩
  replace LL:=Ab ((Aa LL).on hb)
  clear hb
  go_wp2_with fail
  go_ret
  exact⟨rfl,(Aa LL).below⟩
 ·have hk2:(k==0)=false:=by simp[hk]
  rw[hk2]
  go_enter func31,ntmps31
  go_wp2_with (((with_reducible apply Dg);(case ho=>rfl);(case hx=>rfl);(case hw=>rfl);(case hc=>first|exact(Aa LL).one);simp only[nn]))
  refine(Aa HK _ (Au (Aa HT) (Aa LL).below)).mono ?_
  rintro _ w4 ⟨rfl,hb⟩
  replace LL:=Ab ((Aa LL).on hb)
  clear hb
  go_wp2_with fail
  go_ret
  exact⟨rfl,(Aa LL).below⟩
theorem Zev (d:DD) (hd:FD d) (w:World) (hT:Lib.Utf8Tabs 1 2 w):Calls prog 110 #[d.agg] w fun e w'=>e= .returned (.bool (wholeV d))/\Below w.heap.size w w':=by
 have HK:=Ab (fun w hT=>Zac d hd w hT)
 have HV:=Ab (Gl d.v hd.1)
 have HG:=Ab (Gl d.g hd.2.1)
 have HS:=Ab (Gl d.s hd.2.2)
 have HT:=Ab hT
 clear hT
 clear hd
 have LL:=Ab (Lie.new1 w (.D d))
 unfold wholeV
 generalize Jm d=k at *
 generalize thV d.v=tv at *
 generalize thV d.g=tg at *
 generalize thV d.s=ts at *
 generalize hqa:(d.w !=0)=qa at *
 generalize hqe:(d.e !=0)=qe at *
 generalize hqc:(d.c !=0)=qc at *
 have hq0:=Jc d
 rw[hq0]
 clear hq0
 by_cases h3:k=3
 ·subst h3
  cases qe
  ·go_enter func110,ntmps110
   go_wp2_with (first|((with_reducible apply Dg);(case ho=>rfl);(case hx=>rfl);(case hw=>rfl);(case hc=>first|exact(Aa LL).one);simp only[nn])|((with_reducible apply Ep);(case ho=>rfl);(case hx=>rfl);(case hw=>rfl);(case hc=>first|exact(Aa LL).one);simp only[nn])|(go_at_call 106;refine(Ea _ _).mono ?_;rintro _ _ ⟨rfl,rfl⟩))
   refine(Aa HK _ (Au (Aa HT) (Aa LL).below)).mono ?_
   rintro _ w8 ⟨rfl,hb⟩
   replace LL:=Ab ((Aa LL).on hb)
   clear hb
   go_wp2_with fail
   go_ret
   exact⟨rfl,(Aa LL).below⟩
  ·cases qc
   ·go_enter func110,ntmps110
    go_wp2_with (first|((with_reducible apply Dg);(case ho=>rfl);(case hx=>rfl);(case hw=>rfl);(case hc=>first|exact(Aa LL).one);simp only[nn])|((with_reducible apply Ep);(case ho=>rfl);(case hx=>rfl);(case hw=>rfl);(case hc=>first|exact(Aa LL).one);simp only[nn])|((with_reducible apply Ex);(case ho=>rfl);(case hx=>rfl);(case hw=>rfl);(case hc=>first|exact(Aa LL).one);simp only[nn])|(go_at_call 106;refine(Ea _ _).mono ?_;rintro _ _ ⟨rfl,rfl⟩))
    refine(Aa HK _ (Au (Aa HT) (Aa LL).below)).mono ?_
    rintro _ w9 ⟨rfl,hb⟩
    replace LL:=Ab ((Aa LL).on hb)
    clear hb
    go_wp2_with fail
    go_ret
    exact⟨rfl,(Aa LL).below⟩
   ·go_enter func110,ntmps110
    go_wp2_with (first|((with_reducible apply Dg);(case ho=>rfl);(case hx=>rfl);(case hw=>rfl);(case hc=>first|exact(Aa LL).one);simp only[nn])|((with_reducible apply Ep);(case ho=>rfl);(case hx=>rfl);(case hw=>rfl);(case hc=>first|exact(Aa LL).one);simp only[nn])|((with_reducible apply Ex);(case ho=>rfl);(case hx=>rfl);(case hw=>rfl);(case hc=>first|exact(Aa LL).one);simp only[nn])|(go_at_call 106;refine(Ea _ _).mono ?_;rintro _ _ ⟨rfl,rfl⟩))
    refine(Aa HK _ (Au (Aa HT) (Aa LL).below)).mono ?_
    rintro _ w10 ⟨rfl,hb⟩
    replace LL:=Ab ((Aa LL).on hb)
    clear hb
    go_wp2_with (((with_reducible apply Zg);(case ho=>rfl);(case hx=>rfl);(case hw=>rfl);(case hc=>first|exact(Aa LL).one);simp only[nn]))
    refine(Aa HG _).mono ?_
    rintro _ w11 ⟨rfl,hb⟩
    replace LL:=Ab ((Aa LL).on hb)
    clear hb
    cases tg
    ·go_wp2_with fail
     go_ret
     exact⟨rfl,(Aa LL).below⟩
    ·go_wp2_with (((with_reducible apply Zf);(case ho=>rfl);(case hx=>rfl);(case hw=>rfl);(case hc=>first|exact(Aa LL).one);simp only[nn]))
     refine(Aa HS _).mono ?_
     rintro _ w12 ⟨rfl,hb⟩
     replace LL:=Ab ((Aa LL).on hb)
     clear hb
     go_wp2_with fail
     go_ret
     exact⟨rfl,(Aa LL).below⟩
 ·have e3:(k==3)=false:=by simp[h3]
  rw[e3]
  by_cases h2:k=2
  ·subst h2
   cases qe
   ·go_enter func110,ntmps110
    go_wp2_with (first|((with_reducible apply Dg);(case ho=>rfl);(case hx=>rfl);(case hw=>rfl);(case hc=>first|exact(Aa LL).one);simp only[nn])|((with_reducible apply Ep);(case ho=>rfl);(case hx=>rfl);(case hw=>rfl);(case hc=>first|exact(Aa LL).one);simp only[nn])|(go_at_call 106;refine(Ea _ _).mono ?_;rintro _ _ ⟨rfl,rfl⟩))
    refine(Aa HK _ (Au (Aa HT) (Aa LL).below)).mono ?_
    rintro _ w13 ⟨rfl,hb⟩
    replace LL:=Ab ((Aa LL).on hb)
    clear hb
    go_wp2_with fail
    go_ret
    exact⟨rfl,(Aa LL).below⟩
   ·cases qc
    ·go_enter func110,ntmps110
     go_wp2_with (first|((with_reducible apply Dg);(case ho=>rfl);(case hx=>rfl);(case hw=>rfl);(case hc=>first|exact(Aa LL).one);simp only[nn])|((with_reducible apply Ep);(case ho=>rfl);(case hx=>rfl);(case hw=>rfl);(case hc=>first|exact(Aa LL).one);simp only[nn])|((with_reducible apply Ex);(case ho=>rfl);(case hx=>rfl);(case hw=>rfl);(case hc=>first|exact(Aa LL).one);simp only[nn])|(go_at_call 106;refine(Ea _ _).mono ?_;rintro _ _ ⟨rfl,rfl⟩))
     refine(Aa HK _ (Au (Aa HT) (Aa LL).below)).mono ?_
     rintro _ w14 ⟨rfl,hb⟩
     replace LL:=Ab ((Aa LL).on hb)
     clear hb
     go_wp2_with fail
     go_ret
     exact⟨rfl,(Aa LL).below⟩
    ·go_enter func110,ntmps110
     go_wp2_with (first|((with_reducible apply Dg);(case ho=>rfl);(case hx=>rfl);(case hw=>rfl);(case hc=>first|exact(Aa LL).one);simp only[nn])|((with_reducible apply Ep);(case ho=>rfl);(case hx=>rfl);(case hw=>rfl);(case hc=>first|exact(Aa LL).one);simp only[nn])|((with_reducible apply Ex);(case ho=>rfl);(case hx=>rfl);(case hw=>rfl);(case hc=>first|exact(Aa LL).one);simp only[nn])|(go_at_call 106;refine(Ea _ _).mono ?_;rintro _ _ ⟨rfl,rfl⟩))
     refine(Aa HK _ (Au (Aa HT) (Aa LL).below)).mono ?_
     rintro _ w15 ⟨rfl,hb⟩
     replace LL:=Ab ((Aa LL).on hb)
     clear hb
     go_wp2_with (((with_reducible apply Ze);(case ho=>rfl);(case hx=>rfl);(case hw=>rfl);(case hc=>first|exact(Aa LL).one);simp only[nn]))
     refine(Aa HV _).mono ?_
     rintro _ w16 ⟨rfl,hb⟩
     replace LL:=Ab ((Aa LL).on hb)
     clear hb
     cases tv
     ·go_wp2_with fail
      go_ret
      exact⟨rfl,(Aa LL).below⟩
     ·go_wp2_with (first|((with_reducible apply Kv);(case ho=>rfl);(case hx=>rfl);(case hw=>rfl);(case hc=>first|exact(Aa LL).one);simp only[nn])|(go_at_call 106;refine(Ea _ _).mono ?_;rintro _ _ ⟨rfl,rfl⟩))
      go_ret
      exact⟨rfl,(Aa LL).below⟩
  ·have e2:(k==2)=false:=by simp[h2]
   rw[e2]
   cases qe
   ·go_enter func110,ntmps110
    go_wp2_with (first|((with_reducible apply Dg);(case ho=>rfl);(case hx=>rfl);(case hw=>rfl);(case hc=>first|exact(Aa LL).one);simp only[nn])|((with_reducible apply Ep);(case ho=>rfl);(case hx=>rfl);(case hw=>rfl);(case hc=>first|exact(Aa LL).one);simp only[nn])|(go_at_call 106;refine(Ea _ _).mono ?_;rintro _ _ ⟨rfl,rfl⟩))
    refine(Aa HK _ (Au (Aa HT) (Aa LL).below)).mono ?_
    rintro _ w17 ⟨rfl,hb⟩
    replace LL:=Ab ((Aa LL).on hb)
    clear hb
    go_wp2_with fail
    go_ret
    exact⟨rfl,(Aa LL).below⟩
   ·cases qc
    ·go_enter func110,ntmps110
     go_wp2_with (first|((with_reducible apply Dg);(case ho=>rfl);(case hx=>rfl);(case hw=>rfl);(case hc=>first|exact(Aa LL).one);simp only[nn])|((with_reducible apply Ep);(case ho=>rfl);(case hx=>rfl);(case hw=>rfl);(case hc=>first|exact(Aa LL).one);simp only[nn])|((with_reducible apply Ex);(case ho=>rfl);(case hx=>rfl);(case hw=>rfl);(case hc=>first|exact(Aa LL).one);simp only[nn])|(go_at_call 106;refine(Ea _ _).mono ?_;rintro _ _ ⟨rfl,rfl⟩))
     refine(Aa HK _ (Au (Aa HT) (Aa LL).below)).mono ?_
     rintro _ w18 ⟨rfl,hb⟩
     replace LL:=Ab ((Aa LL).on hb)
     clear hb
     go_wp2_with fail
     go_ret
     exact⟨rfl,(Aa LL).below⟩
    ·go_enter func110,ntmps110
     go_wp2_with (first|((with_reducible apply Dg);(case ho=>rfl);(case hx=>rfl);(case hw=>rfl);(case hc=>first|exact(Aa LL).one);simp only[nn])|((with_reducible apply Ep);(case ho=>rfl);(case hx=>rfl);(case hw=>rfl);(case hc=>first|exact(Aa LL).one);simp only[nn])|((with_reducible apply Ex);(case ho=>rfl);(case hx=>rfl);(case hw=>rfl);(case hc=>first|exact(Aa LL).one);simp only[nn])|(go_at_call 106;refine(Ea _ _).mono ?_;rintro _ _ ⟨rfl,rfl⟩))
     refine(Aa HK _ (Au (Aa HT) (Aa LL).below)).mono ?_
     rintro _ w19 ⟨rfl,hb⟩
     replace LL:=Ab ((Aa LL).on hb)
     clear hb
     go_wp2_with fail
     go_ret
     exact⟨rfl,(Aa LL).below⟩
theorem Yd (d:DD) (hd:FD d) (w:World):Calls prog 95 #[d.agg] w fun e w'=>e= .returned (.bool (noV d))/\Below w.heap.size w w':=by
 have HB:=Ab (Df d hd)
 clear hd
 have LL:=Ab (Lie.new1 w (.D d))
 unfold noV
 generalize Di d=k at *
 generalize hqe:(d.e !=0)=qe at *
 generalize hqc:(d.c !=0)=qc at *
 have hq0:=Jc d
 rw[hq0]
 clear hq0
 by_cases hk:k=1
 ·subst hk
  cases qe
  ·go_enter func95,ntmps95
   go_wp2_with (((with_reducible apply Dg);(case ho=>rfl);(case hx=>rfl);(case hw=>rfl);(case hc=>first|exact(Aa LL).one);simp only[nn]))
   refine(Aa HB _).mono ?_
   rintro _ w20 ⟨rfl,hb⟩
   replace LL:=Ab ((Aa LL).on hb)
   clear hb
   go_wp2_with (first|((with_reducible apply Ep);(case ho=>rfl);(case hx=>rfl);(case hw=>rfl);(case hc=>first|exact(Aa LL).one);simp only[nn])|((with_reducible apply Ex);(case ho=>rfl);(case hx=>rfl);(case hw=>rfl);(case hc=>first|exact(Aa LL).one);simp only[nn])|(go_at_call 106;refine(Ea _ _).mono ?_;rintro _ _ ⟨rfl,rfl⟩))
   go_ret
   exact⟨rfl,(Aa LL).below⟩
  ·go_enter func95,ntmps95
   go_wp2_with (((with_reducible apply Dg);(case ho=>rfl);(case hx=>rfl);(case hw=>rfl);(case hc=>first|exact(Aa LL).one);simp only[nn]))
   refine(Aa HB _).mono ?_
   rintro _ w20 ⟨rfl,hb⟩
   replace LL:=Ab ((Aa LL).on hb)
   clear hb
   go_wp2_with (first|((with_reducible apply Ep);(case ho=>rfl);(case hx=>rfl);(case hw=>rfl);(case hc=>first|exact(Aa LL).one);simp only[nn])|(go_at_call 106;refine(Ea _ _).mono ?_;rintro _ _ ⟨rfl,rfl⟩))
   go_ret
   exact⟨rfl,(Aa LL).below⟩
 ·have hk2:(k==1)=false:=by simp[hk]
  rw[hk2]
  go_enter func95,ntmps95
  go_wp2_with (((with_reducible apply Dg);(case ho=>rfl);(case hx=>rfl);(case hw=>rfl);(case hc=>first|exact(Aa LL).one);simp only[nn]))
  refine(Aa HB _).mono ?_
  rintro _ w20 ⟨rfl,hb⟩
  replace LL:=Ab ((Aa LL).on hb)
  clear hb
  go_wp2_with fail
  go_ret
  exact⟨rfl,(Aa LL).below⟩
theorem Zc4 (d:DD) (hd:FD d) (w:World) (hT:Lib.Utf8Tabs 1 2 w):Calls prog 94 #[d.agg] w fun e w'=>e= .returned (.bool (stV d))/\Below w.heap.size w w':=by
 have HA:=Ab (Yd d hd)
 have HB:=Ab (fun w hT=>Zev d hd w hT)
 have HT:=Ab hT
 clear hT
 clear hd
 have LL:=Ab (Lie.new1 w (.D d))
 unfold stV
 generalize noV d=n at *
 generalize wholeV d=wh at *
 have hq0:=Jc d
 rw[hq0]
 clear hq0
 go_enter func94,ntmps94
 go_wp2_with (((with_reducible apply Dg);(case ho=>rfl);(case hx=>rfl);(case hw=>rfl);(case hc=>first|exact(Aa LL).one);simp only[nn]))
 refine(Aa HA _).mono ?_
 rintro _ w21 ⟨rfl,hb⟩
 replace LL:=Ab ((Aa LL).on hb)
 clear hb
 cases n
 ·go_wp2_with (((with_reducible apply Dg);(case ho=>rfl);(case hx=>rfl);(case hw=>rfl);(case hc=>first|exact(Aa LL).one);simp only[nn]))
  refine(Aa HB _ (Au (Aa HT) (Aa LL).below)).mono ?_
  rintro _ w22 ⟨rfl,hb⟩
  replace LL:=Ab ((Aa LL).on hb)
  clear hb
  go_wp2_with fail
  go_ret
  exact⟨rfl,(Aa LL).below⟩
 ·go_wp2_with fail
  go_ret
  exact⟨rfl,(Aa LL).below⟩
