import Derived.Test.YthcmamjpfigdfaaGreatDoorQq
import Derived.Test.YthcmamjpfigdfaaGreatDoorQp
import Derived.Deep.MidRow
import Derived.BigFrame
set_option linter.all false
namespace Go.Proofs.YthcmamjpfigdfaaGreatDoor
set_option maxRecDepth 100000
set_option maxHeartbeats 0
section
open Go.RowKit FM
attribute [local go_sem] Gt Dv
def okE (g:Bool) (r:Bool):Value:= .tuple #[.bool (g && r), .int .i64 (Za g)]
theorem hold_any (f:FuncId) (cmp:Nat->Nat->Bool) (a b:VV)
  (hn: ∀w,Calls Tryz.prog 176 #[.iface 230 (.float .f64 a.x), .iface 230 (.float .f64 b.x), .func (.func f) #[] #[]] w fun e w'=>e= .returned (.bool (cmp a.x b.x))/\Below w.heap.size w w') (w:World) (hT:Lib.Utf8Tabs 1 2 w):
  Calls Tryz.prog 169 #[a.agg,b.agg, .func (.func f) #[] #[]] w fun e w'=>e= .returned (okE (a.good && b.good) (Eb cmp a b))/\Below w.heap.size w w':=by
 have HT:=Ab hT
 clear hT
 have HI:=Ab (Oo a.k a.b a.x a.s a.i)
 have HJ:=Ab (Oo b.k b.b b.x b.s b.i)
 have HA:=Ab (fun ha hb=>ZeT f cmp a b ha hb hn)
 clear hn
 have e1:Ml a.k a.b a.x a.s a.i=a.good:=rfl
 have e2:Ml b.k b.b b.x b.s b.i=b.good:=rfl
 rw[e1] at HI
 rw[e2] at HJ
 cases hg:a.good
 ·rw[hg] at HI
  generalize Zdq ⟨a.k,a.b,a.x,a.s,a.i⟩=fa at *
  generalize Zdq ⟨b.k,b.b,b.x,b.s,b.i⟩=fb at *
  generalize b.good=gb at *
  clear HA e1 e2 hg
  generalize Eb cmp a b=r
  obtain⟨k,c,x,s,i⟩:=a
  obtain⟨k',c',x',s',i'⟩:=b
  unfold VV.agg at *
  dsimp only at *
  cases gb
  all_goals
   go_enter Tryz.func169,Tryz.ntmps169
   go_wp2_with fail
   refine(Aa HI _ (Ao (Aa HT) (Ku w _ _))).mono ?_
   rintro e w1 ⟨rfl,hb⟩
   have hB:=(Ku w _ _).trans (hb.mono (by simp;omega))
   obtain⟨r0,r1,r2,r3,r4,rf,rl⟩:=Ot (Vj _ (w.heap.size+1) _ _ _ _ _ _ (by simp)) hb
   clear hb
   go_wp2_with fail
   refine(Aa HJ _ (Ao (Aa HT) hB)).mono ?_
   rintro e w2 ⟨rfl,hb⟩
   go_wp2
   go_ret2
   exact⟨by simp[okE,Za],hB.trans (hb.mono hB.size)⟩
 ·rw[hg,ZbH (v:=⟨a.k,a.b,a.x,a.s,a.i⟩) hg] at HI
  have e3:VV.ifc ⟨a.k,a.b,a.x,a.s,a.i⟩=a.ifc:=rfl
  rw[e3] at HI
  cases hh:b.good
  ·rw[hh] at HJ
   generalize Zdq ⟨b.k,b.b,b.x,b.s,b.i⟩=fb at *
   clear HA e1 e2 e3 hg hh
   generalize Eb cmp a b=r
   generalize a.ifc=fa at *
   obtain⟨k,c,x,s,i⟩:=a
   obtain⟨k',c',x',s',i'⟩:=b
   unfold VV.agg at *
   dsimp only at *
   go_enter Tryz.func169,Tryz.ntmps169
   go_wp2_with fail
   refine(Aa HI _ (Ao (Aa HT) (Ku w _ _))).mono ?_
   rintro e w1 ⟨rfl,hb⟩
   have hB:=(Ku w _ _).trans (hb.mono (by simp;omega))
   obtain⟨r0,r1,r2,r3,r4,rf,rl⟩:=Ot (Vj _ (w.heap.size+1) _ _ _ _ _ _ (by simp)) hb
   clear hb
   go_wp2_with fail
   refine(Aa HJ _ (Ao (Aa HT) hB)).mono ?_
   rintro e w2 ⟨rfl,hb⟩
   go_wp2
   go_ret2
   exact⟨by simp[okE,Za],hB.trans (hb.mono hB.size)⟩
  ·rw[hh,ZbH (v:=⟨b.k,b.b,b.x,b.s,b.i⟩) hh] at HJ
   have e4:VV.ifc ⟨b.k,b.b,b.x,b.s,b.i⟩=b.ifc:=rfl
   rw[e4] at HJ
   have HA':=Ab (Aa HA hg hh)
   clear HA e1 e2 e3 e4 hg hh
   generalize Eb cmp a b=r at *
   generalize a.ifc=fa at *
   generalize b.ifc=fb at *
   obtain⟨k,c,x,s,i⟩:=a
   obtain⟨k',c',x',s',i'⟩:=b
   unfold VV.agg at *
   dsimp only at *
   go_enter Tryz.func169,Tryz.ntmps169
   go_wp2_with fail
   refine(Aa HI _ (Ao (Aa HT) (Ku w _ _))).mono ?_
   rintro e w1 ⟨rfl,hb⟩
   have hB:=(Ku w _ _).trans (hb.mono (by simp;omega))
   obtain⟨r0,r1,r2,r3,r4,rf,rl⟩:=Ot (Vj _ (w.heap.size+1) _ _ _ _ _ _ (by simp)) hb
   clear hb
   go_wp2_with fail
   refine(Aa HJ _ (Ao (Aa HT) hB)).mono ?_
   rintro e w2 ⟨rfl,hb⟩
   have hB2:=hB.trans (hb.mono hB.size)
   clear hb r0 r1 r2 r3 r4 rf rl
   go_wp2_with fail
   refine(Aa HA' _).mono ?_
   rintro e w3 ⟨rfl,hb⟩
   go_wp2
   go_ret2
   exact⟨by simp[okE,Za],hB2.trans (hb.mono hB2.size)⟩
theorem Rp (a b:VV) (w:World) (hT:Lib.Utf8Tabs 1 2 w):
  Calls Tryz.prog 158 #[a.agg,b.agg] w fun e w'=>e= .returned (okE (a.good && b.good) (Eb Ew a b))/\Below w.heap.size w w':=by
 have HT:=Ab hT
 have HH:=Ab (hold_any 170 Ew a b (Zba a.x b.x))
 clear hT
 unfold okE at *
 generalize (a.good && b.good)=g at *
 generalize Eb Ew a b=r at *
 obtain⟨k,c,x,s,i⟩:=a
 obtain⟨k',c',x',s',i'⟩:=b
 unfold VV.agg at *
 dsimp only at *
 go_enter Tryz.func158,Tryz.ntmps158
 go_wp2_with fail
 refine(Aa HH _ (Ao (Aa HT) (Ku w _ _))).mono ?_
 rintro e w1 ⟨rfl,hb⟩
 go_wp2
 go_ret2
 exact⟨rfl,(Ku w _ _).trans (hb.mono (by simp;omega))⟩
end
section
open Go Go.Proofs Go.RowKit FM Tryz
attribute [local go_sem] Dv
def Lc (v:VV):Bool:=if v.k==1||v.k==7 then v.good else !thV v
def slotV (v:VV):Bool:=v.good && (v.k==1||v.k==7)
def Mf (a b:VV):Bool:=if !thV a|| !thV b then thV a==thV b else a.good && b.good && Eb Ew a b
def Zbo (n f:VV):Bool:=thV f && !Mf n f
def orV (v a:VV):VV:=if thV v then v else a
def Dk:VV:=⟨1,false,0,ByteArray.empty,0⟩
theorem Vr (v:VV) (hx:v.x<2^64) (w:World) (hT:Lib.Utf8Tabs 1 2 w):Calls prog 156 #[v.agg] w fun e w'=>e= .returned (.bool (Lc v))/\Below w.heap.size w w':=by
 have HC:=Ab (fun w hT=>Mc v w hT)
 have HV:=Ab (Ge v hx)
 have HT:=Ab hT
 clear hT
 unfold Lc
 have L0:=Lie.new1 w (.V v)
 obtain⟨k,b,x,s,i⟩:=v
 unfold PB.obj VV.obj at L0
 unfold VV.agg Za at *
 dsimp only at *
 have LL:=Ab L0
 clear L0 hx
 generalize VV.good ⟨k,b,x,s,i⟩=g at *
 generalize thV ⟨k,b,x,s,i⟩=t at *
 by_cases hk:k=1
 ·subst hk
  cases g
  ·go_enter func156,ntmps156
   go_wp2_with (fail)
   refine(Aa HC _ (Ao (Aa HT) (Aa LL).below)).mono ?_
   rintro _ w1 ⟨rfl,hb⟩
   replace LL:=Ab ((Aa LL).on hb)
   clear hb
   obtain⟨f0,c0_0,c0_1,c0_2,c0_3,c0_4⟩:=(Aa LL).one
   dsimp only at f0 c0_0 c0_1 c0_2 c0_3 c0_4
   go_wp2_with (fail)
   go_ret
   exact⟨rfl,(Aa LL).below⟩
  ·go_enter func156,ntmps156
   go_wp2_with (fail)
   refine(Aa HC _ (Ao (Aa HT) (Aa LL).below)).mono ?_
   rintro _ w1 ⟨rfl,hb⟩
   replace LL:=Ab ((Aa LL).on hb)
   clear hb
   obtain⟨f0,c0_0,c0_1,c0_2,c0_3,c0_4⟩:=(Aa LL).one
   dsimp only at f0 c0_0 c0_1 c0_2 c0_3 c0_4
   go_wp2_with (fail)
   go_ret
   exact⟨rfl,(Aa LL).below⟩
 ·by_cases hk7:k=7
  ·subst hk7
   cases g
   ·go_enter func156,ntmps156
    go_wp2_with (fail)
    refine(Aa HC _ (Ao (Aa HT) (Aa LL).below)).mono ?_
    rintro _ w1 ⟨rfl,hb⟩
    replace LL:=Ab ((Aa LL).on hb)
    clear hb
    obtain⟨f0,c0_0,c0_1,c0_2,c0_3,c0_4⟩:=(Aa LL).one
    dsimp only at f0 c0_0 c0_1 c0_2 c0_3 c0_4
    go_wp2_with (fail)
    go_ret
    exact⟨rfl,(Aa LL).below⟩
   ·go_enter func156,ntmps156
    go_wp2_with (fail)
    refine(Aa HC _ (Ao (Aa HT) (Aa LL).below)).mono ?_
    rintro _ w1 ⟨rfl,hb⟩
    replace LL:=Ab ((Aa LL).on hb)
    clear hb
    obtain⟨f0,c0_0,c0_1,c0_2,c0_3,c0_4⟩:=(Aa LL).one
    dsimp only at f0 c0_0 c0_1 c0_2 c0_3 c0_4
    go_wp2_with (fail)
    go_ret
    exact⟨rfl,(Aa LL).below⟩
  ·have e1:(k==1)=false:=by simp[hk]
   have e7:(k==7)=false:=by simp[hk7]
   rw[e1,e7]
   go_enter func156,ntmps156
   go_wp2_with (fail)
   refine(Aa HV _).mono ?_
   rintro _ w1 ⟨rfl,hb⟩
   replace LL:=Ab ((Aa LL).on hb)
   clear hb
   obtain⟨f0,c0_0,c0_1,c0_2,c0_3,c0_4⟩:=(Aa LL).one
   dsimp only at f0 c0_0 c0_1 c0_2 c0_3 c0_4
   go_wp2_with (fail)
   go_ret
   exact⟨rfl,(Aa LL).below⟩
theorem Ka (v a:VV) (hx:v.x<2^64) (w:World):Calls prog 159 #[v.agg,a.agg] w fun e w'=>e= .returned (orV v a).agg/\Below w.heap.size w w':=by
 have HV:=Ab (Ge v hx)
 unfold orV
 have L0:=Lie.new3 w (.V v) (.V a) (.V Aq)
 obtain⟨k,b,x,s,i⟩:=v
 obtain⟨k2,b2,x2,s2,i2⟩:=a
 unfold PB.obj VV.obj at L0
 unfold VV.agg at *
 dsimp only at *
 have LL:=Ab L0
 clear L0 hx
 generalize thV ⟨k,b,x,s,i⟩=t at *
 cases t
 ·go_enter func159,ntmps159
  go_wp2_with (fail)
  refine(Aa HV _).mono ?_
  rintro _ w1 ⟨rfl,hb⟩
  replace LL:=Ab ((Aa LL).on hb)
  clear hb
  obtain⟨f0,c0_0,c0_1,c0_2,c0_3,c0_4⟩:=(Aa LL).one
  obtain⟨f1,c1_0,c1_1,c1_2,c1_3,c1_4⟩:=(Aa LL).two
  obtain⟨f2,c2_0,c2_1,c2_2,c2_3,c2_4⟩:=(Aa LL).three
  dsimp only at f0 c0_0 c0_1 c0_2 c0_3 c0_4 f1 c1_0 c1_1 c1_2 c1_3 c1_4 f2 c2_0 c2_1 c2_2 c2_3 c2_4
  go_wp2_with (fail)
  simp[bodyPost,results,Tryz.results159,go_sem,c2_0,c2_1,c2_2,c2_3,c2_4]
  exact set5 (Aa LL).below
 ·go_enter func159,ntmps159
  go_wp2_with (fail)
  refine(Aa HV _).mono ?_
  rintro _ w1 ⟨rfl,hb⟩
  replace LL:=Ab ((Aa LL).on hb)
  clear hb
  obtain⟨f0,c0_0,c0_1,c0_2,c0_3,c0_4⟩:=(Aa LL).one
  obtain⟨f1,c1_0,c1_1,c1_2,c1_3,c1_4⟩:=(Aa LL).two
  obtain⟨f2,c2_0,c2_1,c2_2,c2_3,c2_4⟩:=(Aa LL).three
  dsimp only at f0 c0_0 c0_1 c0_2 c0_3 c0_4 f1 c1_0 c1_1 c1_2 c1_3 c1_4 f2 c2_0 c2_1 c2_2 c2_3 c2_4
  go_wp2_with (fail)
  simp[bodyPost,results,Tryz.results159,go_sem,c2_0,c2_1,c2_2,c2_3,c2_4]
  exact set5 (Aa LL).below
end
section
open Go Go.Proofs Go.RowKit FM Tryz
theorem ZfK {w X:World} {k:Int} {b1:Bool} {x:Nat} {s:ByteArray} {i:Int} {k2:Int} {b2:Bool} {x2:Nat} {s2:ByteArray} {i2:Int} (h:Lie w X [.V ⟨k,b1,x,s,i⟩, .V ⟨k2,b2,x2,s2,i2⟩]):
  X.cell? ⟨w.heap.size,0,none⟩=some (.int .i64 k)/\X.cell? ⟨w.heap.size,1,none⟩=some (.bool b1)/\X.cell? ⟨w.heap.size,2,none⟩=some (.float .f64 x)/\X.cell? ⟨w.heap.size,3,none⟩=some (.string s)/\X.cell? ⟨w.heap.size,4,none⟩=some (.int .i64 i)/\X.cell? ⟨w.heap.size+1,0,none⟩=some (.int .i64 k2)/\X.cell? ⟨w.heap.size+1,1,none⟩=some (.bool b2)/\X.cell? ⟨w.heap.size+1,2,none⟩=some (.float .f64 x2)/\X.cell? ⟨w.heap.size+1,3,none⟩=some (.string s2)/\X.cell? ⟨w.heap.size+1,4,none⟩=some (.int .i64 i2):=by
 obtain⟨-,a0,a1,a2,a3,a4⟩:=h.one
 obtain⟨-,b0,b1,b2,b3,b4⟩:=h.two
 exact⟨a0,a1,a2,a3,a4,b0,b1,b2,b3,b4⟩
theorem Zb9 (a b:VV) (ha:a.x<2^64) (hb:b.x<2^64) (w:World) (hT:Lib.Utf8Tabs 1 2 w):Calls prog 138 #[a.agg,b.agg] w fun e w'=>e= .returned (.bool (Mf a b))/\Below w.heap.size w w':=by
 have HA:=Ab (Ge a ha)
 have HB:=Ab (Ge b hb)
 have HS:=Ab (fun w hT=>Rp a b w hT)
 have HT:=Ab hT
 clear hT
 unfold Mf
 have L0:=Lie.new2 w (.V a) (.V b)
 obtain⟨k,b1,x,s,i⟩:=a
 obtain⟨k2,b2,x2,s2,i2⟩:=b
 unfold PB.obj VV.obj at L0
 unfold VV.agg okE at *
 dsimp only at *
 have LL:=Ab L0
 clear L0 ha hb
 generalize thV ⟨k,b1,x,s,i⟩=ta at *
 generalize thV ⟨k2,b2,x2,s2,i2⟩=tb at *
 generalize (VV.good ⟨k,b1,x,s,i⟩ && VV.good ⟨k2,b2,x2,s2,i2⟩)=g at *
 generalize Eb Ew ⟨k,b1,x,s,i⟩ ⟨k2,b2,x2,s2,i2⟩=al at *
 cases ta
 ·go_enter func138,ntmps138
  go_wp2_with (fail)
  refine(Aa HA _).mono ?_
  rintro _ w1 ⟨rfl,hb⟩
  replace LL:=Ab ((Aa LL).on hb)
  clear hb
  obtain⟨f0,c0_0,c0_1,c0_2,c0_3,c0_4⟩:=(Aa LL).one
  obtain⟨f1,c1_0,c1_1,c1_2,c1_3,c1_4⟩:=(Aa LL).two
  dsimp only at f0 c0_0 c0_1 c0_2 c0_3 c0_4 f1 c1_0 c1_1 c1_2 c1_3 c1_4
  go_wp2_with (fail)
  go_region_held3 (fun X=>X.cell? ⟨w.heap.size,0,none⟩=some (.int .i64 k)/\X.cell? ⟨w.heap.size,1,none⟩=some (.bool b1)/\X.cell? ⟨w.heap.size,2,none⟩=some (.float .f64 x)/\X.cell? ⟨w.heap.size,3,none⟩=some (.string s)/\X.cell? ⟨w.heap.size,4,none⟩=some (.int .i64 i)/\X.cell? ⟨w.heap.size+1,0,none⟩=some (.int .i64 k2)/\X.cell? ⟨w.heap.size+1,1,none⟩=some (.bool b2)/\X.cell? ⟨w.heap.size+1,2,none⟩=some (.float .f64 x2)/\X.cell? ⟨w.heap.size+1,3,none⟩=some (.string s2)/\X.cell? ⟨w.heap.size+1,4,none⟩=some (.int .i64 i2)) (first|exact ZfK k2|exact ZfK k1|exact ZfK (Aa LL).drew) ((first|(go_at_call_of 103 (Value.string s);refine(Aa HA _).mono ?_;rintro _ w8 ⟨rfl,hb1⟩;have k1:=((Aa LL).drew).on hb1)|(go_at_call_of 103 (Value.string s2);refine(Aa HB _).mono ?_;rintro _ w9 ⟨rfl,hb2⟩;have k2:=k1.on hb2)))
  replace LL:=Ab k2
  clear k1 k2 hb1 hb2
  go_wp2_with (fail)
  go_ret
  exact⟨rfl,(Aa LL).below⟩
 ·cases tb
  ·go_enter func138,ntmps138
   go_wp2_with (fail)
   refine(Aa HA _).mono ?_
   rintro _ w2 ⟨rfl,hb⟩
   replace LL:=Ab ((Aa LL).on hb)
   clear hb
   obtain⟨f0,c0_0,c0_1,c0_2,c0_3,c0_4⟩:=(Aa LL).one
   obtain⟨f1,c1_0,c1_1,c1_2,c1_3,c1_4⟩:=(Aa LL).two
   dsimp only at f0 c0_0 c0_1 c0_2 c0_3 c0_4 f1 c1_0 c1_1 c1_2 c1_3 c1_4
   go_wp2_with (fail)
   refine(Aa HB _).mono ?_
   rintro _ w3 ⟨rfl,hb⟩
   clear f0 c0_0 c0_1 c0_2 c0_3 c0_4 f1 c1_0 c1_1 c1_2 c1_3 c1_4
   replace LL:=Ab ((Aa LL).on hb)
   clear hb
   obtain⟨f0,c0_0,c0_1,c0_2,c0_3,c0_4⟩:=(Aa LL).one
   obtain⟨f1,c1_0,c1_1,c1_2,c1_3,c1_4⟩:=(Aa LL).two
   dsimp only at f0 c0_0 c0_1 c0_2 c0_3 c0_4 f1 c1_0 c1_1 c1_2 c1_3 c1_4
   go_wp2_with (fail)
   go_region_held3 (fun X=>X.cell? ⟨w.heap.size,0,none⟩=some (.int .i64 k)/\X.cell? ⟨w.heap.size,1,none⟩=some (.bool b1)/\X.cell? ⟨w.heap.size,2,none⟩=some (.float .f64 x)/\X.cell? ⟨w.heap.size,3,none⟩=some (.string s)/\X.cell? ⟨w.heap.size,4,none⟩=some (.int .i64 i)/\X.cell? ⟨w.heap.size+1,0,none⟩=some (.int .i64 k2)/\X.cell? ⟨w.heap.size+1,1,none⟩=some (.bool b2)/\X.cell? ⟨w.heap.size+1,2,none⟩=some (.float .f64 x2)/\X.cell? ⟨w.heap.size+1,3,none⟩=some (.string s2)/\X.cell? ⟨w.heap.size+1,4,none⟩=some (.int .i64 i2)) (first|exact ZfK k2|exact ZfK k1|exact ZfK (Aa LL).drew) ((first|(go_at_call_of 103 (Value.string s);refine(Aa HA _).mono ?_;rintro _ w8 ⟨rfl,hb1⟩;have k1:=((Aa LL).drew).on hb1)|(go_at_call_of 103 (Value.string s2);refine(Aa HB _).mono ?_;rintro _ w9 ⟨rfl,hb2⟩;have k2:=k1.on hb2)))
   replace LL:=Ab k2
   clear k1 k2 hb1 hb2
   go_wp2_with (fail)
   go_ret
   exact⟨rfl,(Aa LL).below⟩
  ·go_enter func138,ntmps138
   go_wp2_with (fail)
   refine(Aa HA _).mono ?_
   rintro _ w2 ⟨rfl,hb⟩
   replace LL:=Ab ((Aa LL).on hb)
   clear hb
   obtain⟨f0,c0_0,c0_1,c0_2,c0_3,c0_4⟩:=(Aa LL).one
   obtain⟨f1,c1_0,c1_1,c1_2,c1_3,c1_4⟩:=(Aa LL).two
   dsimp only at f0 c0_0 c0_1 c0_2 c0_3 c0_4 f1 c1_0 c1_1 c1_2 c1_3 c1_4
   go_wp2_with (fail)
   refine(Aa HB _).mono ?_
   rintro _ w3 ⟨rfl,hb⟩
   clear f0 c0_0 c0_1 c0_2 c0_3 c0_4 f1 c1_0 c1_1 c1_2 c1_3 c1_4
   replace LL:=Ab ((Aa LL).on hb)
   clear hb
   obtain⟨f0,c0_0,c0_1,c0_2,c0_3,c0_4⟩:=(Aa LL).one
   obtain⟨f1,c1_0,c1_1,c1_2,c1_3,c1_4⟩:=(Aa LL).two
   dsimp only at f0 c0_0 c0_1 c0_2 c0_3 c0_4 f1 c1_0 c1_1 c1_2 c1_3 c1_4
   go_wp2_with (fail)
   refine(Aa HS _ (Ao (Aa HT) (Aa LL).below)).mono ?_
   rintro _ w4 ⟨rfl,hb⟩
   clear f0 c0_0 c0_1 c0_2 c0_3 c0_4 f1 c1_0 c1_1 c1_2 c1_3 c1_4
   replace LL:=Ab ((Aa LL).on hb)
   clear hb
   obtain⟨f0,c0_0,c0_1,c0_2,c0_3,c0_4⟩:=(Aa LL).one
   obtain⟨f1,c1_0,c1_1,c1_2,c1_3,c1_4⟩:=(Aa LL).two
   dsimp only at f0 c0_0 c0_1 c0_2 c0_3 c0_4 f1 c1_0 c1_1 c1_2 c1_3 c1_4
   go_wp2_with (fail)
   go_ret
   exact⟨rfl,(Aa LL).below⟩
theorem Qi (a b:VV) (ha:a.x<2^64) (hb:b.x<2^64) (w:World) (hT:Lib.Utf8Tabs 1 2 w):Calls prog 163 #[a.agg,b.agg] w fun e w'=>e= .returned (.bool (Zbo a b))/\Below w.heap.size w w':=by
 have HB:=Ab (Ge b hb)
 have HS:=Ab (fun w hT=>Zb9 a b ha hb w hT)
 have HT:=Ab hT
 clear hT
 unfold Zbo
 have L0:=Lie.new2 w (.V a) (.V b)
 obtain⟨k,b1,x,s,i⟩:=a
 obtain⟨k2,b2,x2,s2,i2⟩:=b
 unfold PB.obj VV.obj at L0
 unfold VV.agg at *
 dsimp only at *
 have LL:=Ab L0
 clear L0 ha hb
 generalize thV ⟨k2,b2,x2,s2,i2⟩=tb at *
 generalize Mf ⟨k,b1,x,s,i⟩ ⟨k2,b2,x2,s2,i2⟩=sm at *
 cases tb
 ·go_enter func163,ntmps163
  go_wp2_with (fail)
  refine(Aa HB _).mono ?_
  rintro _ w1 ⟨rfl,hb⟩
  replace LL:=Ab ((Aa LL).on hb)
  clear hb
  obtain⟨f0,c0_0,c0_1,c0_2,c0_3,c0_4⟩:=(Aa LL).one
  obtain⟨f1,c1_0,c1_1,c1_2,c1_3,c1_4⟩:=(Aa LL).two
  dsimp only at f0 c0_0 c0_1 c0_2 c0_3 c0_4 f1 c1_0 c1_1 c1_2 c1_3 c1_4
  go_wp2_with (fail)
  go_ret
  exact⟨rfl,(Aa LL).below⟩
 ·go_enter func163,ntmps163
  go_wp2_with (fail)
  refine(Aa HB _).mono ?_
  rintro _ w1 ⟨rfl,hb⟩
  replace LL:=Ab ((Aa LL).on hb)
  clear hb
  obtain⟨f0,c0_0,c0_1,c0_2,c0_3,c0_4⟩:=(Aa LL).one
  obtain⟨f1,c1_0,c1_1,c1_2,c1_3,c1_4⟩:=(Aa LL).two
  dsimp only at f0 c0_0 c0_1 c0_2 c0_3 c0_4 f1 c1_0 c1_1 c1_2 c1_3 c1_4
  go_wp2_with (fail)
  refine(Aa HS _ (Ao (Aa HT) (Aa LL).below)).mono ?_
  rintro _ w2 ⟨rfl,hb⟩
  clear f0 c0_0 c0_1 c0_2 c0_3 c0_4 f1 c1_0 c1_1 c1_2 c1_3 c1_4
  replace LL:=Ab ((Aa LL).on hb)
  clear hb
  obtain⟨f0,c0_0,c0_1,c0_2,c0_3,c0_4⟩:=(Aa LL).one
  obtain⟨f1,c1_0,c1_1,c1_2,c1_3,c1_4⟩:=(Aa LL).two
  dsimp only at f0 c0_0 c0_1 c0_2 c0_3 c0_4 f1 c1_0 c1_1 c1_2 c1_3 c1_4
  go_wp2_with (fail)
  go_ret
  exact⟨rfl,(Aa LL).below⟩
end
section
open Go Go.Proofs Go.RowKit FM
def Ee (d:DD):Bool:=(!thV d.v||d.v.good) && Lc d.g && Lc d.s && Oc d.w && Oc d.e && Oc d.c
def Eo (d:DD):Int:=if Ee d then Az d else 0
def wholeV (d:DD):Bool:=if Eo d==3 then (d.e !=0 && d.c !=0) && thV d.g && thV d.s else if Eo d==2 then (d.e !=0 && d.c !=0) && thV d.v && d.w !=0 else false
theorem By (d:DD) (hd:FD d) (w:World):Calls Tryz.prog 136 #[d.agg] w fun e w'=>e= .returned (.int .i64 (Az d))/\Below w.heap.size w w':=by
 have HV:=Ab (Ge d.v hd.1)
 have HG:=Ab (Ge d.g hd.2.1)
 have HS:=Ab (Ge d.s hd.2.2)
 clear hd
 have L0:=Lie.new1 w (.D d)
 obtain⟨v,g,s,a,e,c⟩:=d
 unfold Az
 unfold DD.agg
 unfold PB.obj DD.obj at L0
 unfold VV.agg at *
 dsimp only at *
 have LL:=Ab L0
 clear L0
 generalize thV v=tv at *
 generalize thV g=tg at *
 generalize thV s=ts at *
 generalize hq:(a !=0)=q at *
 go_enter Tryz.func136,Tryz.ntmps136
 go_wp2_with fail
 refine(Aa HV _).mono ?_
 rintro _ w1 ⟨rfl,hb⟩
 replace LL:=Ab ((Aa LL).on hb)
 clear hb
 obtain⟨f0,c0_0,c0_1,c0_2,c0_3,c0_4,c0_5,c0_6,c0_7,c0_8,c0_9,c0_10,c0_11,c0_12,c0_13,c0_14,c0_15,c0_16,c0_17⟩:=(Aa LL).one
 dsimp only at f0 c0_0 c0_1 c0_2 c0_3 c0_4 c0_5 c0_6 c0_7 c0_8 c0_9 c0_10 c0_11 c0_12 c0_13 c0_14 c0_15 c0_16 c0_17
 cases tv
 ·cases q
  ·go_wp2_with ((go_at_call 102;refine(Dp _ _).mono ?_;rintro _ _ ⟨rfl,rfl⟩))
   refine(Aa HG _).mono ?_
   rintro _ w2 ⟨rfl,hb⟩
   clear f0 c0_0 c0_1 c0_2 c0_3 c0_4 c0_5 c0_6 c0_7 c0_8 c0_9 c0_10 c0_11 c0_12 c0_13 c0_14 c0_15 c0_16 c0_17
   replace LL:=Ab ((Aa LL).on hb)
   clear hb
   obtain⟨f0,c0_0,c0_1,c0_2,c0_3,c0_4,c0_5,c0_6,c0_7,c0_8,c0_9,c0_10,c0_11,c0_12,c0_13,c0_14,c0_15,c0_16,c0_17⟩:=(Aa LL).one
   dsimp only at f0 c0_0 c0_1 c0_2 c0_3 c0_4 c0_5 c0_6 c0_7 c0_8 c0_9 c0_10 c0_11 c0_12 c0_13 c0_14 c0_15 c0_16 c0_17
   cases tg
   ·go_wp2_with fail
    refine(Aa HS _).mono ?_
    rintro _ w3 ⟨rfl,hb⟩
    clear f0 c0_0 c0_1 c0_2 c0_3 c0_4 c0_5 c0_6 c0_7 c0_8 c0_9 c0_10 c0_11 c0_12 c0_13 c0_14 c0_15 c0_16 c0_17
    replace LL:=Ab ((Aa LL).on hb)
    clear hb
    obtain⟨f0,c0_0,c0_1,c0_2,c0_3,c0_4,c0_5,c0_6,c0_7,c0_8,c0_9,c0_10,c0_11,c0_12,c0_13,c0_14,c0_15,c0_16,c0_17⟩:=(Aa LL).one
    dsimp only at f0 c0_0 c0_1 c0_2 c0_3 c0_4 c0_5 c0_6 c0_7 c0_8 c0_9 c0_10 c0_11 c0_12 c0_13 c0_14 c0_15 c0_16 c0_17
    cases ts
    ·go_wp2_with fail
     go_ret
     exact⟨rfl,(Aa LL).below⟩
    ·go_wp2_with fail
     go_ret
     exact⟨rfl,(Aa LL).below⟩
   ·go_wp2_with fail
    go_ret
    exact⟨rfl,(Aa LL).below⟩
  ·go_wp2_with ((go_at_call 102;refine(Dp _ _).mono ?_;rintro _ _ ⟨rfl,rfl⟩))
   refine(Aa HG _).mono ?_
   rintro _ w4 ⟨rfl,hb⟩
   clear f0 c0_0 c0_1 c0_2 c0_3 c0_4 c0_5 c0_6 c0_7 c0_8 c0_9 c0_10 c0_11 c0_12 c0_13 c0_14 c0_15 c0_16 c0_17
   replace LL:=Ab ((Aa LL).on hb)
   clear hb
   obtain⟨f0,c0_0,c0_1,c0_2,c0_3,c0_4,c0_5,c0_6,c0_7,c0_8,c0_9,c0_10,c0_11,c0_12,c0_13,c0_14,c0_15,c0_16,c0_17⟩:=(Aa LL).one
   dsimp only at f0 c0_0 c0_1 c0_2 c0_3 c0_4 c0_5 c0_6 c0_7 c0_8 c0_9 c0_10 c0_11 c0_12 c0_13 c0_14 c0_15 c0_16 c0_17
   cases tg
   ·go_wp2_with fail
    refine(Aa HS _).mono ?_
    rintro _ w5 ⟨rfl,hb⟩
    clear f0 c0_0 c0_1 c0_2 c0_3 c0_4 c0_5 c0_6 c0_7 c0_8 c0_9 c0_10 c0_11 c0_12 c0_13 c0_14 c0_15 c0_16 c0_17
    replace LL:=Ab ((Aa LL).on hb)
    clear hb
    obtain⟨f0,c0_0,c0_1,c0_2,c0_3,c0_4,c0_5,c0_6,c0_7,c0_8,c0_9,c0_10,c0_11,c0_12,c0_13,c0_14,c0_15,c0_16,c0_17⟩:=(Aa LL).one
    dsimp only at f0 c0_0 c0_1 c0_2 c0_3 c0_4 c0_5 c0_6 c0_7 c0_8 c0_9 c0_10 c0_11 c0_12 c0_13 c0_14 c0_15 c0_16 c0_17
    cases ts
    ·go_wp2_with fail
     go_ret
     exact⟨rfl,(Aa LL).below⟩
    ·go_wp2_with fail
     go_ret
     exact⟨rfl,(Aa LL).below⟩
   ·go_wp2_with fail
    go_ret
    exact⟨rfl,(Aa LL).below⟩
 ·go_wp2_with fail
  refine(Aa HG _).mono ?_
  rintro _ w6 ⟨rfl,hb⟩
  clear f0 c0_0 c0_1 c0_2 c0_3 c0_4 c0_5 c0_6 c0_7 c0_8 c0_9 c0_10 c0_11 c0_12 c0_13 c0_14 c0_15 c0_16 c0_17
  replace LL:=Ab ((Aa LL).on hb)
  clear hb
  obtain⟨f0,c0_0,c0_1,c0_2,c0_3,c0_4,c0_5,c0_6,c0_7,c0_8,c0_9,c0_10,c0_11,c0_12,c0_13,c0_14,c0_15,c0_16,c0_17⟩:=(Aa LL).one
  dsimp only at f0 c0_0 c0_1 c0_2 c0_3 c0_4 c0_5 c0_6 c0_7 c0_8 c0_9 c0_10 c0_11 c0_12 c0_13 c0_14 c0_15 c0_16 c0_17
  cases tg
  ·go_wp2_with fail
   refine(Aa HS _).mono ?_
   rintro _ w7 ⟨rfl,hb⟩
   clear f0 c0_0 c0_1 c0_2 c0_3 c0_4 c0_5 c0_6 c0_7 c0_8 c0_9 c0_10 c0_11 c0_12 c0_13 c0_14 c0_15 c0_16 c0_17
   replace LL:=Ab ((Aa LL).on hb)
   clear hb
   obtain⟨f0,c0_0,c0_1,c0_2,c0_3,c0_4,c0_5,c0_6,c0_7,c0_8,c0_9,c0_10,c0_11,c0_12,c0_13,c0_14,c0_15,c0_16,c0_17⟩:=(Aa LL).one
   dsimp only at f0 c0_0 c0_1 c0_2 c0_3 c0_4 c0_5 c0_6 c0_7 c0_8 c0_9 c0_10 c0_11 c0_12 c0_13 c0_14 c0_15 c0_16 c0_17
   cases ts
   ·go_wp2_with fail
    go_ret
    exact⟨rfl,(Aa LL).below⟩
   ·go_wp2_with fail
    go_ret
    exact⟨rfl,(Aa LL).below⟩
  ·go_wp2_with fail
   go_ret
   exact⟨rfl,(Aa LL).below⟩
theorem ZfX (d:DD) (hd:FD d) (w:World) (hT:Lib.Utf8Tabs 1 2 w):Calls Tryz.prog 135 #[d.agg] w fun e w'=>e= .returned (.bool (Ee d))/\Below w.heap.size w w':=by
 have HV:=Ab (Ge d.v hd.1)
 have HC:=Ab (fun w hT=>Mc d.v w hT)
 have HG:=Ab (fun w hT=>Vr d.g hd.2.1 w hT)
 have HS:=Ab (fun w hT=>Vr d.s hd.2.2 w hT)
 have HT:=Ab hT
 clear hd hT
 have L0:=Lie.new1 w (.D d)
 obtain⟨v,g,s,a,e,c⟩:=d
 unfold Ee
 unfold DD.agg
 unfold PB.obj DD.obj at L0
 unfold VV.agg at *
 dsimp only at *
 have LL:=Ab L0
 clear L0
 unfold Za at HC
 generalize thV v=tv at *
 generalize VV.good v=gv at *
 generalize Lc g=cg at *
 generalize Lc s=cs at *
 generalize hta:Oc a=ta at *
 generalize hte:Oc e=te at *
 generalize htc:Oc c=tc at *
 go_enter Tryz.func135,Tryz.ntmps135
 go_wp2_with fail
 refine(Aa HV _).mono ?_
 rintro _ w1 ⟨rfl,hb⟩
 replace LL:=Ab ((Aa LL).on hb)
 clear hb
 obtain⟨f0,c0_0,c0_1,c0_2,c0_3,c0_4,c0_5,c0_6,c0_7,c0_8,c0_9,c0_10,c0_11,c0_12,c0_13,c0_14,c0_15,c0_16,c0_17⟩:=(Aa LL).one
 dsimp only at f0 c0_0 c0_1 c0_2 c0_3 c0_4 c0_5 c0_6 c0_7 c0_8 c0_9 c0_10 c0_11 c0_12 c0_13 c0_14 c0_15 c0_16 c0_17
 cases tv
 ·go_wp2_with fail
  refine(Aa HG _ (Ao (Aa HT) (Aa LL).below)).mono ?_
  rintro _ w2 ⟨rfl,hb⟩
  clear f0 c0_0 c0_1 c0_2 c0_3 c0_4 c0_5 c0_6 c0_7 c0_8 c0_9 c0_10 c0_11 c0_12 c0_13 c0_14 c0_15 c0_16 c0_17
  replace LL:=Ab ((Aa LL).on hb)
  clear hb
  obtain⟨f0,c0_0,c0_1,c0_2,c0_3,c0_4,c0_5,c0_6,c0_7,c0_8,c0_9,c0_10,c0_11,c0_12,c0_13,c0_14,c0_15,c0_16,c0_17⟩:=(Aa LL).one
  dsimp only at f0 c0_0 c0_1 c0_2 c0_3 c0_4 c0_5 c0_6 c0_7 c0_8 c0_9 c0_10 c0_11 c0_12 c0_13 c0_14 c0_15 c0_16 c0_17
  cases cg
  ·go_wp2_with fail
   go_ret
   exact⟨rfl,(Aa LL).below⟩
  ·go_wp2_with fail
   refine(Aa HS _ (Ao (Aa HT) (Aa LL).below)).mono ?_
   rintro _ w3 ⟨rfl,hb⟩
   clear f0 c0_0 c0_1 c0_2 c0_3 c0_4 c0_5 c0_6 c0_7 c0_8 c0_9 c0_10 c0_11 c0_12 c0_13 c0_14 c0_15 c0_16 c0_17
   replace LL:=Ab ((Aa LL).on hb)
   clear hb
   obtain⟨f0,c0_0,c0_1,c0_2,c0_3,c0_4,c0_5,c0_6,c0_7,c0_8,c0_9,c0_10,c0_11,c0_12,c0_13,c0_14,c0_15,c0_16,c0_17⟩:=(Aa LL).one
   dsimp only at f0 c0_0 c0_1 c0_2 c0_3 c0_4 c0_5 c0_6 c0_7 c0_8 c0_9 c0_10 c0_11 c0_12 c0_13 c0_14 c0_15 c0_16 c0_17
   cases cs
   ·go_wp2_with fail
    go_ret
    exact⟨rfl,(Aa LL).below⟩
   ·cases ta
    ·go_wp2_with ((go_at_call 157;refine(Gp _ _).mono ?_;rintro _ _ ⟨rfl,rfl⟩))
     go_ret
     exact⟨rfl,(Aa LL).below⟩
    ·cases te
     ·go_wp2_with ((go_at_call 157;refine(Gp _ _).mono ?_;rintro _ _ ⟨rfl,rfl⟩))
      go_ret
      exact⟨rfl,(Aa LL).below⟩
     ·go_wp2_with ((go_at_call 157;refine(Gp _ _).mono ?_;rintro _ _ ⟨rfl,rfl⟩))
      go_ret
      exact⟨rfl,(Aa LL).below⟩
 ·go_wp2_with fail
  refine(Aa HC _ (Ao (Aa HT) (Aa LL).below)).mono ?_
  rintro _ w4 ⟨rfl,hb⟩
  clear f0 c0_0 c0_1 c0_2 c0_3 c0_4 c0_5 c0_6 c0_7 c0_8 c0_9 c0_10 c0_11 c0_12 c0_13 c0_14 c0_15 c0_16 c0_17
  replace LL:=Ab ((Aa LL).on hb)
  clear hb
  obtain⟨f0,c0_0,c0_1,c0_2,c0_3,c0_4,c0_5,c0_6,c0_7,c0_8,c0_9,c0_10,c0_11,c0_12,c0_13,c0_14,c0_15,c0_16,c0_17⟩:=(Aa LL).one
  dsimp only at f0 c0_0 c0_1 c0_2 c0_3 c0_4 c0_5 c0_6 c0_7 c0_8 c0_9 c0_10 c0_11 c0_12 c0_13 c0_14 c0_15 c0_16 c0_17
  cases gv
  ·go_wp2_with fail
   go_ret
   exact⟨rfl,(Aa LL).below⟩
  ·go_wp2_with fail
   refine(Aa HG _ (Ao (Aa HT) (Aa LL).below)).mono ?_
   rintro _ w5 ⟨rfl,hb⟩
   clear f0 c0_0 c0_1 c0_2 c0_3 c0_4 c0_5 c0_6 c0_7 c0_8 c0_9 c0_10 c0_11 c0_12 c0_13 c0_14 c0_15 c0_16 c0_17
   replace LL:=Ab ((Aa LL).on hb)
   clear hb
   obtain⟨f0,c0_0,c0_1,c0_2,c0_3,c0_4,c0_5,c0_6,c0_7,c0_8,c0_9,c0_10,c0_11,c0_12,c0_13,c0_14,c0_15,c0_16,c0_17⟩:=(Aa LL).one
   dsimp only at f0 c0_0 c0_1 c0_2 c0_3 c0_4 c0_5 c0_6 c0_7 c0_8 c0_9 c0_10 c0_11 c0_12 c0_13 c0_14 c0_15 c0_16 c0_17
   cases cg
   ·go_wp2_with fail
    go_ret
    exact⟨rfl,(Aa LL).below⟩
   ·go_wp2_with fail
    refine(Aa HS _ (Ao (Aa HT) (Aa LL).below)).mono ?_
    rintro _ w6 ⟨rfl,hb⟩
    clear f0 c0_0 c0_1 c0_2 c0_3 c0_4 c0_5 c0_6 c0_7 c0_8 c0_9 c0_10 c0_11 c0_12 c0_13 c0_14 c0_15 c0_16 c0_17
    replace LL:=Ab ((Aa LL).on hb)
    clear hb
    obtain⟨f0,c0_0,c0_1,c0_2,c0_3,c0_4,c0_5,c0_6,c0_7,c0_8,c0_9,c0_10,c0_11,c0_12,c0_13,c0_14,c0_15,c0_16,c0_17⟩:=(Aa LL).one
    dsimp only at f0 c0_0 c0_1 c0_2 c0_3 c0_4 c0_5 c0_6 c0_7 c0_8 c0_9 c0_10 c0_11 c0_12 c0_13 c0_14 c0_15 c0_16 c0_17
    cases cs
    ·go_wp2_with fail
     go_ret
     exact⟨rfl,(Aa LL).below⟩
    ·cases ta
     ·go_wp2_with ((go_at_call 157;refine(Gp _ _).mono ?_;rintro _ _ ⟨rfl,rfl⟩))
      go_ret
      exact⟨rfl,(Aa LL).below⟩
     ·cases te
      ·go_wp2_with ((go_at_call 157;refine(Gp _ _).mono ?_;rintro _ _ ⟨rfl,rfl⟩))
       go_ret
       exact⟨rfl,(Aa LL).below⟩
      ·go_wp2_with ((go_at_call 157;refine(Gp _ _).mono ?_;rintro _ _ ⟨rfl,rfl⟩))
       go_ret
       exact⟨rfl,(Aa LL).below⟩
end
section
open Go Go.Proofs Go.RowKit FM Tryz
def DD.cs (d:DD):List Value:= [.int .i64 d.v.k, .bool d.v.b, .float .f64 d.v.x, .string d.v.s, .int .i64 d.v.i, .int .i64 d.g.k, .bool d.g.b, .float .f64 d.g.x, .string d.g.s, .int .i64 d.g.i, .int .i64 d.s.k, .bool d.s.b, .float .f64 d.s.x, .string d.s.s, .int .i64 d.s.i, .int .i64 d.w, .int .i64 d.e, .int .i64 d.c]
def VV.cs (d:VV):List Value:= [.int .i64 d.k, .bool d.b, .float .f64 d.x, .string d.s, .int .i64 d.i]
theorem Lies.range {W:World} {B:Nat} {d:DD} (h:Lies W B d):W.rangeAt B 0 [.int .i64 d.v.k, .bool d.v.b, .float .f64 d.v.x, .string d.v.s, .int .i64 d.v.i, .int .i64 d.g.k, .bool d.g.b, .float .f64 d.g.x, .string d.g.s, .int .i64 d.g.i, .int .i64 d.s.k, .bool d.s.b, .float .f64 d.s.x, .string d.s.s, .int .i64 d.s.i, .int .i64 d.w, .int .i64 d.e, .int .i64 d.c]:=by
 intro j v hv
 obtain⟨-,h0,h1,h2,h3,h4,h5,h6,h7,h8,h9,h10,h11,h12,h13,h14,h15,h16,h17⟩:=h
 match j,hv with
 |0,hv=>exact(Option.some.inj hv)▸h0
 |1,hv=>exact(Option.some.inj hv)▸h1
 |2,hv=>exact(Option.some.inj hv)▸h2
 |3,hv=>exact(Option.some.inj hv)▸h3
 |4,hv=>exact(Option.some.inj hv)▸h4
 |5,hv=>exact(Option.some.inj hv)▸h5
 |6,hv=>exact(Option.some.inj hv)▸h6
 |7,hv=>exact(Option.some.inj hv)▸h7
 |8,hv=>exact(Option.some.inj hv)▸h8
 |9,hv=>exact(Option.some.inj hv)▸h9
 |10,hv=>exact(Option.some.inj hv)▸h10
 |11,hv=>exact(Option.some.inj hv)▸h11
 |12,hv=>exact(Option.some.inj hv)▸h12
 |13,hv=>exact(Option.some.inj hv)▸h13
 |14,hv=>exact(Option.some.inj hv)▸h14
 |15,hv=>exact(Option.some.inj hv)▸h15
 |16,hv=>exact(Option.some.inj hv)▸h16
 |17,hv=>exact(Option.some.inj hv)▸h17
 |_+18,hv=>exact absurd hv (by simp)
theorem Lies.rv {W:World} {B:Nat} {d:DD} (h:Lies W B d):W.rangeAt B 0 [.int .i64 d.v.k, .bool d.v.b, .float .f64 d.v.x, .string d.v.s, .int .i64 d.v.i]:=by
 intro j v hv
 obtain⟨-,h0,h1,h2,h3,h4,h5,h6,h7,h8,h9,h10,h11,h12,h13,h14,h15,h16,h17⟩:=h
 match j,hv with
 |0,hv=>exact(Option.some.inj hv)▸h0
 |1,hv=>exact(Option.some.inj hv)▸h1
 |2,hv=>exact(Option.some.inj hv)▸h2
 |3,hv=>exact(Option.some.inj hv)▸h3
 |4,hv=>exact(Option.some.inj hv)▸h4
 |_+5,hv=>exact absurd hv (by simp)
theorem Lies.rg {W:World} {B:Nat} {d:DD} (h:Lies W B d):W.rangeAt B 5 [.int .i64 d.g.k, .bool d.g.b, .float .f64 d.g.x, .string d.g.s, .int .i64 d.g.i]:=by
 intro j v hv
 obtain⟨-,h0,h1,h2,h3,h4,h5,h6,h7,h8,h9,h10,h11,h12,h13,h14,h15,h16,h17⟩:=h
 match j,hv with
 |0,hv=>exact(Option.some.inj hv)▸h5
 |1,hv=>exact(Option.some.inj hv)▸h6
 |2,hv=>exact(Option.some.inj hv)▸h7
 |3,hv=>exact(Option.some.inj hv)▸h8
 |4,hv=>exact(Option.some.inj hv)▸h9
 |_+5,hv=>exact absurd hv (by simp)
theorem Lies.rs {W:World} {B:Nat} {d:DD} (h:Lies W B d):W.rangeAt B 10 [.int .i64 d.s.k, .bool d.s.b, .float .f64 d.s.x, .string d.s.s, .int .i64 d.s.i]:=by
 intro j v hv
 obtain⟨-,h0,h1,h2,h3,h4,h5,h6,h7,h8,h9,h10,h11,h12,h13,h14,h15,h16,h17⟩:=h
 match j,hv with
 |0,hv=>exact(Option.some.inj hv)▸h10
 |1,hv=>exact(Option.some.inj hv)▸h11
 |2,hv=>exact(Option.some.inj hv)▸h12
 |3,hv=>exact(Option.some.inj hv)▸h13
 |4,hv=>exact(Option.some.inj hv)▸h14
 |_+5,hv=>exact absurd hv (by simp)
theorem Xp:(prog.info? 43).map (·.size)=some 18:=by kernel_rfl
theorem Zo: ∃d,prog.underlying 43=some d/\d.isRow=true:=⟨_,underlying43,rfl⟩
theorem Rc:(prog.info? 40).map (·.size)=some 5:=by kernel_rfl
theorem Rb: ∃d,prog.underlying 40=some d/\d.isRow=true:=⟨_,underlying40,rfl⟩
theorem Bu {ops:Array Oper} {rest:List Oper} {o:Oper} {a:Act} {w:World} {Q:Exit->Act->World->Prop} {x:Operand} {b:Nat} {d:DD} (hw:Region.wanted o (yielded ops a.tmps)=true) (ho:o.op= .load 43 x)
  (hx:a.eval x= .pointer (some ⟨b,0,none⟩)) (hc:Lies w b d) (h:wpList prog ops Q rest (a.put o.dst d.agg) w):wpList prog ops Q (o::rest) a w:=by
 obtain⟨t,hu,hd⟩:=Zo
 refine BigFrame.wpList_want hw fun K hK=> ?_
 exact wp_load_mid 43 x ho b 0 hx _ t hc.range hu hd Xp (hK _ _ h)
theorem Zj {ops:Array Oper} {rest:List Oper} {o:Oper} {a:Act} {w:World} {Q:Exit->Act->World->Prop} {x:Operand} {b:Nat} {d:DD} (hw:Region.wanted o (yielded ops a.tmps)=true) (ho:o.op= .load 40 x)
  (hx:a.eval x= .pointer (some ⟨b,0,none⟩)) (hc:Lies w b d) (h:wpList prog ops Q rest (a.put o.dst d.v.agg) w):wpList prog ops Q (o::rest) a w:=by
 obtain⟨t,hu,hd⟩:=Rb
 refine BigFrame.wpList_want hw fun K hK=> ?_
 exact wp_load_mid 40 x ho b 0 hx _ t hc.rv hu hd Rc (hK _ _ h)
theorem Zl {ops:Array Oper} {rest:List Oper} {o:Oper} {a:Act} {w:World} {Q:Exit->Act->World->Prop} {x:Operand} {b:Nat} {d:DD} (hw:Region.wanted o (yielded ops a.tmps)=true) (ho:o.op= .load 40 x)
  (hx:a.eval x= .pointer (some ⟨b,5,none⟩)) (hc:Lies w b d) (h:wpList prog ops Q rest (a.put o.dst d.g.agg) w):wpList prog ops Q (o::rest) a w:=by
 obtain⟨t,hu,hd⟩:=Rb
 refine BigFrame.wpList_want hw fun K hK=> ?_
 exact wp_load_mid 40 x ho b 5 hx _ t hc.rg hu hd Rc (hK _ _ h)
theorem Zk {ops:Array Oper} {rest:List Oper} {o:Oper} {a:Act} {w:World} {Q:Exit->Act->World->Prop} {x:Operand} {b:Nat} {d:DD} (hw:Region.wanted o (yielded ops a.tmps)=true) (ho:o.op= .load 40 x)
  (hx:a.eval x= .pointer (some ⟨b,10,none⟩)) (hc:Lies w b d) (h:wpList prog ops Q rest (a.put o.dst d.s.agg) w):wpList prog ops Q (o::rest) a w:=by
 obtain⟨t,hu,hd⟩:=Rb
 refine BigFrame.wpList_want hw fun K hK=> ?_
 exact wp_load_mid 40 x ho b 10 hx _ t hc.rs hu hd Rc (hK _ _ h)
theorem Kj {ops:Array Oper} {rest:List Oper} {o:Oper} {a:Act} {w:World} {Q:Exit->Act->World->Prop} {x:Operand} {b:Nat} {d:DD} (hw:Region.wanted o (yielded ops a.tmps)=true) (ho:o.op= .load 41 x)
  (hx:a.eval x= .pointer (some ⟨b,15,none⟩)) (hc:Lies w b d) (h:wpList prog ops Q rest (a.put o.dst (.int .i64 d.w)) w):wpList prog ops Q (o::rest) a w:=by
 obtain⟨-,h0,h1,h2,h3,h4,h5,h6,h7,h8,h9,h10,h11,h12,h13,h14,h15,h16,h17⟩:=hc
 refine BigFrame.wpList_want hw fun K hK=> ?_
 unfold Oper.wp execOp
 simp only[ho,hx]
 simp[go_sem,h15,isAgg41]
 exact hK _ _ h
theorem Ek {ops:Array Oper} {rest:List Oper} {o:Oper} {a:Act} {w:World} {Q:Exit->Act->World->Prop} {x:Operand} {b:Nat} {d:DD} (hw:Region.wanted o (yielded ops a.tmps)=true) (ho:o.op= .load 41 x)
  (hx:a.eval x= .pointer (some ⟨b,16,none⟩)) (hc:Lies w b d) (h:wpList prog ops Q rest (a.put o.dst (.int .i64 d.e)) w):wpList prog ops Q (o::rest) a w:=by
 obtain⟨-,h0,h1,h2,h3,h4,h5,h6,h7,h8,h9,h10,h11,h12,h13,h14,h15,h16,h17⟩:=hc
 refine BigFrame.wpList_want hw fun K hK=> ?_
 unfold Oper.wp execOp
 simp only[ho,hx]
 simp[go_sem,h16,isAgg41]
 exact hK _ _ h
theorem Ds {ops:Array Oper} {rest:List Oper} {o:Oper} {a:Act} {w:World} {Q:Exit->Act->World->Prop} {x:Operand} {b:Nat} {d:DD} (hw:Region.wanted o (yielded ops a.tmps)=true) (ho:o.op= .load 41 x)
  (hx:a.eval x= .pointer (some ⟨b,17,none⟩)) (hc:Lies w b d) (h:wpList prog ops Q rest (a.put o.dst (.int .i64 d.c)) w):wpList prog ops Q (o::rest) a w:=by
 obtain⟨-,h0,h1,h2,h3,h4,h5,h6,h7,h8,h9,h10,h11,h12,h13,h14,h15,h16,h17⟩:=hc
 refine BigFrame.wpList_want hw fun K hK=> ?_
 unfold Oper.wp execOp
 simp only[ho,hx]
 simp[go_sem,h17,isAgg41]
 exact hK _ _ h
