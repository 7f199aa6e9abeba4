import Derived.Test.YthjnflilfjcgiaaGreatFmtQk
import Derived.Test.YthjnflilfjcgiaaGreatFmtQj
import Derived.Deep.MidRow
import Derived.BigFrame
set_option linter.all false
namespace Go.Proofs.YthjnflilfjcgiaaGreatFmt
set_option maxRecDepth 100000
set_option maxHeartbeats 0
section
open Go Go.Proofs Go.RowKit FM Tryz
attribute [local go_sem] run_store_floatD
def callV (v:VV):Bool:=if v.k==1||v.k==7 then v.good else !thV v
def samV (a b:VV):Bool:=if !thV a|| !thV b then thV a==thV b else a.good && b.good && alikeV sameV a b
def difV (n f:VV):Bool:=thV f && !samV n f
def orV (v a:VV):VV:=if thV v then v else a
def undV:VV:=⟨1,false,0,ByteArray.empty,0⟩
theorem callable_any (v:VV) (hx:v.x<2^64) (w:World) (hT:Lib.Utf8Tabs 4 5 w):Calls prog 103 #[v.agg] w fun e w'=>e= .returned (.bool (callV v))/\Below w.heap.size w w':=by
 have HC:=hide (fun w hT=>check_any v w hT)
 have HV:=hide (there_any v hx)
 have HT:=hide hT
 clear hT
 unfold callV
 have L0:=Lie.new1 w (.V v)
 obtain⟨k,b,x,s,i⟩:=v
 unfold PB.obj VV.obj at L0
 unfold VV.agg errB at *
 dsimp only at *
 have LL:=hide L0
 clear L0 hx
 generalize VV.good ⟨k,b,x,s,i⟩=g at *
 generalize thV ⟨k,b,x,s,i⟩=t at *
 by_cases hk:k=1
 ·subst hk
  cases g
  ·go_enter func103,ntmps103
   go_wp2_with (fail)
   refine(uh HC _ (tabs_below (uh HT) (uh LL).below)).mono ?_
   rintro _ w1 ⟨rfl,hb⟩
   replace LL:=hide ((uh LL).on hb)
   clear hb
   obtain⟨f0,c0_0,c0_1,c0_2,c0_3,c0_4⟩:=(uh LL).one
   dsimp only at f0 c0_0 c0_1 c0_2 c0_3 c0_4
   go_wp2_with (fail)
   go_ret
   exact⟨rfl,(uh LL).below⟩
  ·go_enter func103,ntmps103
   go_wp2_with (fail)
   refine(uh HC _ (tabs_below (uh HT) (uh LL).below)).mono ?_
   rintro _ w1 ⟨rfl,hb⟩
   replace LL:=hide ((uh LL).on hb)
   clear hb
   obtain⟨f0,c0_0,c0_1,c0_2,c0_3,c0_4⟩:=(uh LL).one
   dsimp only at f0 c0_0 c0_1 c0_2 c0_3 c0_4
   go_wp2_with (fail)
   go_ret
   exact⟨rfl,(uh LL).below⟩
 ·by_cases hk7:k=7
  ·subst hk7
   cases g
   ·go_enter func103,ntmps103
    go_wp2_with (fail)
    refine(uh HC _ (tabs_below (uh HT) (uh LL).below)).mono ?_
    rintro _ w1 ⟨rfl,hb⟩
    replace LL:=hide ((uh LL).on hb)
    clear hb
    obtain⟨f0,c0_0,c0_1,c0_2,c0_3,c0_4⟩:=(uh LL).one
    dsimp only at f0 c0_0 c0_1 c0_2 c0_3 c0_4
    go_wp2_with (fail)
    go_ret
    exact⟨rfl,(uh LL).below⟩
   ·go_enter func103,ntmps103
    go_wp2_with (fail)
    refine(uh HC _ (tabs_below (uh HT) (uh LL).below)).mono ?_
    rintro _ w1 ⟨rfl,hb⟩
    replace LL:=hide ((uh LL).on hb)
    clear hb
    obtain⟨f0,c0_0,c0_1,c0_2,c0_3,c0_4⟩:=(uh LL).one
    dsimp only at f0 c0_0 c0_1 c0_2 c0_3 c0_4
    go_wp2_with (fail)
    go_ret
    exact⟨rfl,(uh LL).below⟩
  ·have e1:(k==1)=false:=by simp[hk]
   have e7:(k==7)=false:=by simp[hk7]
   rw[e1,e7]
   go_enter func103,ntmps103
   go_wp2_with (fail)
   refine(uh HV _).mono ?_
   rintro _ w1 ⟨rfl,hb⟩
   replace LL:=hide ((uh LL).on hb)
   clear hb
   obtain⟨f0,c0_0,c0_1,c0_2,c0_3,c0_4⟩:=(uh LL).one
   dsimp only at f0 c0_0 c0_1 c0_2 c0_3 c0_4
   go_wp2_with (fail)
   go_ret
   exact⟨rfl,(uh LL).below⟩
theorem valueOr_any (v a:VV) (hx:v.x<2^64) (w:World):Calls prog 112 #[v.agg,a.agg] w fun e w'=>e= .returned (orV v a).agg/\Below w.heap.size w w':=by
 have HV:=hide (there_any v hx)
 unfold orV
 have L0:=Lie.new3 w (.V v) (.V a) (.V zeroV)
 obtain⟨k,b,x,s,i⟩:=v
 obtain⟨k2,b2,x2,s2,i2⟩:=a
 unfold PB.obj VV.obj at L0
 unfold VV.agg at *
 dsimp only at *
 have LL:=hide L0
 clear L0 hx
 generalize thV ⟨k,b,x,s,i⟩=t at *
 cases t
 ·go_enter func112,ntmps112
  go_wp2_with (fail)
  refine(uh HV _).mono ?_
  rintro _ w1 ⟨rfl,hb⟩
  replace LL:=hide ((uh LL).on hb)
  clear hb
  obtain⟨f0,c0_0,c0_1,c0_2,c0_3,c0_4⟩:=(uh LL).one
  obtain⟨f1,c1_0,c1_1,c1_2,c1_3,c1_4⟩:=(uh LL).two
  obtain⟨f2,c2_0,c2_1,c2_2,c2_3,c2_4⟩:=(uh LL).three
  dsimp only at f0 c0_0 c0_1 c0_2 c0_3 c0_4 f1 c1_0 c1_1 c1_2 c1_3 c1_4 f2 c2_0 c2_1 c2_2 c2_3 c2_4
  go_wp2_with (fail)
  simp[bodyPost,results,Tryz.results112,go_sem,c2_0,c2_1,c2_2,c2_3,c2_4]
  exact set5 (uh LL).below (by omega)
 ·go_enter func112,ntmps112
  go_wp2_with (fail)
  refine(uh HV _).mono ?_
  rintro _ w1 ⟨rfl,hb⟩
  replace LL:=hide ((uh LL).on hb)
  clear hb
  obtain⟨f0,c0_0,c0_1,c0_2,c0_3,c0_4⟩:=(uh LL).one
  obtain⟨f1,c1_0,c1_1,c1_2,c1_3,c1_4⟩:=(uh LL).two
  obtain⟨f2,c2_0,c2_1,c2_2,c2_3,c2_4⟩:=(uh LL).three
  dsimp only at f0 c0_0 c0_1 c0_2 c0_3 c0_4 f1 c1_0 c1_1 c1_2 c1_3 c1_4 f2 c2_0 c2_1 c2_2 c2_3 c2_4
  go_wp2_with (fail)
  simp[bodyPost,results,Tryz.results112,go_sem,c2_0,c2_1,c2_2,c2_3,c2_4]
  exact set5 (uh LL).below (by omega)
end
section
open Go Go.Proofs Go.RowKit FM Tryz
theorem vv10 {w X:World} {k:Int} {b1:Bool} {x:Nat} {s:ByteArray} {i:Int} {k2:Int} {b2:Bool} {x2:Nat} {s2:ByteArray} {i2:Int} (h:Lie w X [.V ⟨k,b1,x,s,i⟩, .V ⟨k2,b2,x2,s2,i2⟩]):
  X.cell? ⟨w.heap.size,0,none⟩=some (.int .i64 k)/\X.cell? ⟨w.heap.size,1,none⟩=some (.bool b1)/\X.cell? ⟨w.heap.size,2,none⟩=some (.float .f64 x)/\X.cell? ⟨w.heap.size,3,none⟩=some (.string s)/\X.cell? ⟨w.heap.size,4,none⟩=some (.int .i64 i)/\X.cell? ⟨w.heap.size+1,0,none⟩=some (.int .i64 k2)/\X.cell? ⟨w.heap.size+1,1,none⟩=some (.bool b2)/\X.cell? ⟨w.heap.size+1,2,none⟩=some (.float .f64 x2)/\X.cell? ⟨w.heap.size+1,3,none⟩=some (.string s2)/\X.cell? ⟨w.heap.size+1,4,none⟩=some (.int .i64 i2):=by
 obtain⟨-,a0,a1,a2,a3,a4⟩:=h.one
 obtain⟨-,b0,b1,b2,b3,b4⟩:=h.two
 exact⟨a0,a1,a2,a3,a4,b0,b1,b2,b3,b4⟩
theorem same51 (a b:VV) (ha:a.x<2^64) (hb:b.x<2^64) (w:World) (hT:Lib.Utf8Tabs 4 5 w):Calls prog 124 #[a.agg,b.agg] w fun e w'=>e= .returned (.bool (samV a b))/\Below w.heap.size w w':=by
 have HA:=hide (there_any a ha)
 have HB:=hide (there_any b hb)
 have HS:=hide (fun w hT=>valueSame_any a b w hT)
 have HT:=hide hT
 clear hT
 unfold samV
 have L0:=Lie.new2 w (.V a) (.V b)
 obtain⟨k,b1,x,s,i⟩:=a
 obtain⟨k2,b2,x2,s2,i2⟩:=b
 unfold PB.obj VV.obj at L0
 unfold VV.agg okE at *
 dsimp only at *
 have LL:=hide L0
 clear L0 ha hb
 generalize thV ⟨k,b1,x,s,i⟩=ta at *
 generalize thV ⟨k2,b2,x2,s2,i2⟩=tb at *
 generalize (VV.good ⟨k,b1,x,s,i⟩ && VV.good ⟨k2,b2,x2,s2,i2⟩)=g at *
 generalize alikeV sameV ⟨k,b1,x,s,i⟩ ⟨k2,b2,x2,s2,i2⟩=al at *
 cases ta
 ·go_enter func124,ntmps124
  go_wp2_with (fail)
  refine(uh HA _).mono ?_
  rintro _ w1 ⟨rfl,hb⟩
  replace LL:=hide ((uh LL).on hb)
  clear hb
  obtain⟨f0,c0_0,c0_1,c0_2,c0_3,c0_4⟩:=(uh LL).one
  obtain⟨f1,c1_0,c1_1,c1_2,c1_3,c1_4⟩:=(uh LL).two
  dsimp only at f0 c0_0 c0_1 c0_2 c0_3 c0_4 f1 c1_0 c1_1 c1_2 c1_3 c1_4
  go_wp2_with (fail)
  go_region_held3 (fun X=>X.cell? ⟨w.heap.size,0,none⟩=some (.int .i64 k)/\X.cell? ⟨w.heap.size,1,none⟩=some (.bool b1)/\X.cell? ⟨w.heap.size,2,none⟩=some (.float .f64 x)/\X.cell? ⟨w.heap.size,3,none⟩=some (.string s)/\X.cell? ⟨w.heap.size,4,none⟩=some (.int .i64 i)/\X.cell? ⟨w.heap.size+1,0,none⟩=some (.int .i64 k2)/\X.cell? ⟨w.heap.size+1,1,none⟩=some (.bool b2)/\X.cell? ⟨w.heap.size+1,2,none⟩=some (.float .f64 x2)/\X.cell? ⟨w.heap.size+1,3,none⟩=some (.string s2)/\X.cell? ⟨w.heap.size+1,4,none⟩=some (.int .i64 i2)) (first|exact vv10 k2|exact vv10 k1|exact vv10 (uh LL).drew) ((first|(go_at_call_of 102 (Value.string s);refine(uh HA _).mono ?_;rintro _ w8 ⟨rfl,hb1⟩;have k1:=((uh LL).drew).on hb1)|(go_at_call_of 102 (Value.string s2);refine(uh HB _).mono ?_;rintro _ w9 ⟨rfl,hb2⟩;have k2:=k1.on hb2)))
  replace LL:=hide k2
  clear k1 k2 hb1 hb2
  go_wp2_with (fail)
  go_ret
  exact⟨rfl,(uh LL).below⟩
 ·cases tb
  ·go_enter func124,ntmps124
   go_wp2_with (fail)
   refine(uh HA _).mono ?_
   rintro _ w2 ⟨rfl,hb⟩
   replace LL:=hide ((uh LL).on hb)
   clear hb
   obtain⟨f0,c0_0,c0_1,c0_2,c0_3,c0_4⟩:=(uh LL).one
   obtain⟨f1,c1_0,c1_1,c1_2,c1_3,c1_4⟩:=(uh LL).two
   dsimp only at f0 c0_0 c0_1 c0_2 c0_3 c0_4 f1 c1_0 c1_1 c1_2 c1_3 c1_4
   go_wp2_with (fail)
   refine(uh HB _).mono ?_
   rintro _ w3 ⟨rfl,hb⟩
   clear f0 c0_0 c0_1 c0_2 c0_3 c0_4 f1 c1_0 c1_1 c1_2 c1_3 c1_4
   replace LL:=hide ((uh LL).on hb)
   clear hb
   obtain⟨f0,c0_0,c0_1,c0_2,c0_3,c0_4⟩:=(uh LL).one
   obtain⟨f1,c1_0,c1_1,c1_2,c1_3,c1_4⟩:=(uh LL).two
   dsimp only at f0 c0_0 c0_1 c0_2 c0_3 c0_4 f1 c1_0 c1_1 c1_2 c1_3 c1_4
   go_wp2_with (fail)
   go_region_held3 (fun X=>X.cell? ⟨w.heap.size,0,none⟩=some (.int .i64 k)/\X.cell? ⟨w.heap.size,1,none⟩=some (.bool b1)/\X.cell? ⟨w.heap.size,2,none⟩=some (.float .f64 x)/\X.cell? ⟨w.heap.size,3,none⟩=some (.string s)/\X.cell? ⟨w.heap.size,4,none⟩=some (.int .i64 i)/\X.cell? ⟨w.heap.size+1,0,none⟩=some (.int .i64 k2)/\X.cell? ⟨w.heap.size+1,1,none⟩=some (.bool b2)/\X.cell? ⟨w.heap.size+1,2,none⟩=some (.float .f64 x2)/\X.cell? ⟨w.heap.size+1,3,none⟩=some (.string s2)/\X.cell? ⟨w.heap.size+1,4,none⟩=some (.int .i64 i2)) (first|exact vv10 k2|exact vv10 k1|exact vv10 (uh LL).drew) ((first|(go_at_call_of 102 (Value.string s);refine(uh HA _).mono ?_;rintro _ w8 ⟨rfl,hb1⟩;have k1:=((uh LL).drew).on hb1)|(go_at_call_of 102 (Value.string s2);refine(uh HB _).mono ?_;rintro _ w9 ⟨rfl,hb2⟩;have k2:=k1.on hb2)))
   replace LL:=hide k2
   clear k1 k2 hb1 hb2
   go_wp2_with (fail)
   go_ret
   exact⟨rfl,(uh LL).below⟩
  ·go_enter func124,ntmps124
   go_wp2_with (fail)
   refine(uh HA _).mono ?_
   rintro _ w2 ⟨rfl,hb⟩
   replace LL:=hide ((uh LL).on hb)
   clear hb
   obtain⟨f0,c0_0,c0_1,c0_2,c0_3,c0_4⟩:=(uh LL).one
   obtain⟨f1,c1_0,c1_1,c1_2,c1_3,c1_4⟩:=(uh LL).two
   dsimp only at f0 c0_0 c0_1 c0_2 c0_3 c0_4 f1 c1_0 c1_1 c1_2 c1_3 c1_4
   go_wp2_with (fail)
   refine(uh HB _).mono ?_
   rintro _ w3 ⟨rfl,hb⟩
   clear f0 c0_0 c0_1 c0_2 c0_3 c0_4 f1 c1_0 c1_1 c1_2 c1_3 c1_4
   replace LL:=hide ((uh LL).on hb)
   clear hb
   obtain⟨f0,c0_0,c0_1,c0_2,c0_3,c0_4⟩:=(uh LL).one
   obtain⟨f1,c1_0,c1_1,c1_2,c1_3,c1_4⟩:=(uh LL).two
   dsimp only at f0 c0_0 c0_1 c0_2 c0_3 c0_4 f1 c1_0 c1_1 c1_2 c1_3 c1_4
   go_wp2_with (fail)
   refine(uh HS _ (tabs_below (uh HT) (uh LL).below)).mono ?_
   rintro _ w4 ⟨rfl,hb⟩
   clear f0 c0_0 c0_1 c0_2 c0_3 c0_4 f1 c1_0 c1_1 c1_2 c1_3 c1_4
   replace LL:=hide ((uh LL).on hb)
   clear hb
   obtain⟨f0,c0_0,c0_1,c0_2,c0_3,c0_4⟩:=(uh LL).one
   obtain⟨f1,c1_0,c1_1,c1_2,c1_3,c1_4⟩:=(uh LL).two
   dsimp only at f0 c0_0 c0_1 c0_2 c0_3 c0_4 f1 c1_0 c1_1 c1_2 c1_3 c1_4
   go_wp2_with (fail)
   go_ret
   exact⟨rfl,(uh LL).below⟩
theorem differs_any (a b:VV) (ha:a.x<2^64) (hb:b.x<2^64) (w:World) (hT:Lib.Utf8Tabs 4 5 w):Calls prog 116 #[a.agg,b.agg] w fun e w'=>e= .returned (.bool (difV a b))/\Below w.heap.size w w':=by
 have HB:=hide (there_any b hb)
 have HS:=hide (fun w hT=>same51 a b ha hb w hT)
 have HT:=hide hT
 clear hT
 unfold difV
 have L0:=Lie.new2 w (.V a) (.V b)
 obtain⟨k,b1,x,s,i⟩:=a
 obtain⟨k2,b2,x2,s2,i2⟩:=b
 unfold PB.obj VV.obj at L0
 unfold VV.agg at *
 dsimp only at *
 have LL:=hide L0
 clear L0 ha hb
 generalize thV ⟨k2,b2,x2,s2,i2⟩=tb at *
 generalize samV ⟨k,b1,x,s,i⟩ ⟨k2,b2,x2,s2,i2⟩=sm at *
 cases tb
 ·go_enter func116,ntmps116
  go_wp2_with (fail)
  refine(uh HB _).mono ?_
  rintro _ w1 ⟨rfl,hb⟩
  replace LL:=hide ((uh LL).on hb)
  clear hb
  obtain⟨f0,c0_0,c0_1,c0_2,c0_3,c0_4⟩:=(uh LL).one
  obtain⟨f1,c1_0,c1_1,c1_2,c1_3,c1_4⟩:=(uh LL).two
  dsimp only at f0 c0_0 c0_1 c0_2 c0_3 c0_4 f1 c1_0 c1_1 c1_2 c1_3 c1_4
  go_wp2_with (fail)
  go_ret
  exact⟨rfl,(uh LL).below⟩
 ·go_enter func116,ntmps116
  go_wp2_with (fail)
  refine(uh HB _).mono ?_
  rintro _ w1 ⟨rfl,hb⟩
  replace LL:=hide ((uh LL).on hb)
  clear hb
  obtain⟨f0,c0_0,c0_1,c0_2,c0_3,c0_4⟩:=(uh LL).one
  obtain⟨f1,c1_0,c1_1,c1_2,c1_3,c1_4⟩:=(uh LL).two
  dsimp only at f0 c0_0 c0_1 c0_2 c0_3 c0_4 f1 c1_0 c1_1 c1_2 c1_3 c1_4
  go_wp2_with (fail)
  refine(uh HS _ (tabs_below (uh HT) (uh LL).below)).mono ?_
  rintro _ w2 ⟨rfl,hb⟩
  clear f0 c0_0 c0_1 c0_2 c0_3 c0_4 f1 c1_0 c1_1 c1_2 c1_3 c1_4
  replace LL:=hide ((uh LL).on hb)
  clear hb
  obtain⟨f0,c0_0,c0_1,c0_2,c0_3,c0_4⟩:=(uh LL).one
  obtain⟨f1,c1_0,c1_1,c1_2,c1_3,c1_4⟩:=(uh LL).two
  dsimp only at f0 c0_0 c0_1 c0_2 c0_3 c0_4 f1 c1_0 c1_1 c1_2 c1_3 c1_4
  go_wp2_with (fail)
  go_ret
  exact⟨rfl,(uh LL).below⟩
end
section
open Go Go.Proofs Go.RowKit FM
def soundV (d:DD):Bool:=(!thV d.v||d.v.good) && callV d.g && callV d.s && triV d.w && triV d.e && triV d.c
def kindV (d:DD):Int:=if soundV d then shapeV d else 0
def wholeV (d:DD):Bool:=if kindV d==3 then (d.e !=0 && d.c !=0) && thV d.g && thV d.s else if kindV d==2 then (d.e !=0 && d.c !=0) && thV d.v && d.w !=0 else false
theorem shape_any (d:DD) (hd:FD d) (w:World):Calls Tryz.prog 85 #[d.agg] w fun e w'=>e= .returned (.int .i64 (shapeV d))/\Below w.heap.size w w':=by
 have HV:=hide (there_any d.v hd.1)
 have HG:=hide (there_any d.g hd.2.1)
 have HS:=hide (there_any d.s hd.2.2)
 clear hd
 have L0:=Lie.new1 w (.D d)
 obtain⟨v,g,s,a,e,c⟩:=d
 unfold shapeV
 unfold DD.agg
 unfold PB.obj DD.obj at L0
 unfold VV.agg at *
 dsimp only at *
 have LL:=hide L0
 clear L0
 generalize thV v=tv at *
 generalize thV g=tg at *
 generalize thV s=ts at *
 generalize hq:(a !=0)=q at *
 go_enter Tryz.func85,Tryz.ntmps85
 go_wp2_with (first|(go_at_call 105;refine(said_any _ _).mono ?_;rintro _ _ ⟨rfl,rfl⟩)|(go_at_call 104;refine(oneOfThree_any _ _).mono ?_;rintro _ _ ⟨rfl,rfl⟩))
 refine(uh HV _).mono ?_
 rintro _ w1 ⟨rfl,hb⟩
 replace LL:=hide ((uh LL).on hb)
 clear hb
 obtain⟨f0,c0_0,c0_1,c0_2,c0_3,c0_4,c0_5,c0_6,c0_7,c0_8,c0_9,c0_10,c0_11,c0_12,c0_13,c0_14,c0_15,c0_16,c0_17⟩:=(uh LL).one
 dsimp only at f0 c0_0 c0_1 c0_2 c0_3 c0_4 c0_5 c0_6 c0_7 c0_8 c0_9 c0_10 c0_11 c0_12 c0_13 c0_14 c0_15 c0_16 c0_17
 cases tv
 ·cases q
  ·go_wp2_with (first|(go_at_call 105;refine(said_any _ _).mono ?_;rintro _ _ ⟨rfl,rfl⟩)|(go_at_call 104;refine(oneOfThree_any _ _).mono ?_;rintro _ _ ⟨rfl,rfl⟩))
   refine(uh HG _).mono ?_
   rintro _ w2 ⟨rfl,hb⟩
   clear f0 c0_0 c0_1 c0_2 c0_3 c0_4 c0_5 c0_6 c0_7 c0_8 c0_9 c0_10 c0_11 c0_12 c0_13 c0_14 c0_15 c0_16 c0_17
   replace LL:=hide ((uh LL).on hb)
   clear hb
   obtain⟨f0,c0_0,c0_1,c0_2,c0_3,c0_4,c0_5,c0_6,c0_7,c0_8,c0_9,c0_10,c0_11,c0_12,c0_13,c0_14,c0_15,c0_16,c0_17⟩:=(uh LL).one
   dsimp only at f0 c0_0 c0_1 c0_2 c0_3 c0_4 c0_5 c0_6 c0_7 c0_8 c0_9 c0_10 c0_11 c0_12 c0_13 c0_14 c0_15 c0_16 c0_17
   cases tg
   ·go_wp2_with (first|(go_at_call 105;refine(said_any _ _).mono ?_;rintro _ _ ⟨rfl,rfl⟩)|(go_at_call 104;refine(oneOfThree_any _ _).mono ?_;rintro _ _ ⟨rfl,rfl⟩))
    refine(uh HS _).mono ?_
    rintro _ w3 ⟨rfl,hb⟩
    clear f0 c0_0 c0_1 c0_2 c0_3 c0_4 c0_5 c0_6 c0_7 c0_8 c0_9 c0_10 c0_11 c0_12 c0_13 c0_14 c0_15 c0_16 c0_17
    replace LL:=hide ((uh LL).on hb)
    clear hb
    obtain⟨f0,c0_0,c0_1,c0_2,c0_3,c0_4,c0_5,c0_6,c0_7,c0_8,c0_9,c0_10,c0_11,c0_12,c0_13,c0_14,c0_15,c0_16,c0_17⟩:=(uh LL).one
    dsimp only at f0 c0_0 c0_1 c0_2 c0_3 c0_4 c0_5 c0_6 c0_7 c0_8 c0_9 c0_10 c0_11 c0_12 c0_13 c0_14 c0_15 c0_16 c0_17
    cases ts
    ·go_wp2_with (first|(go_at_call 105;refine(said_any _ _).mono ?_;rintro _ _ ⟨rfl,rfl⟩)|(go_at_call 104;refine(oneOfThree_any _ _).mono ?_;rintro _ _ ⟨rfl,rfl⟩))
     go_ret
     exact⟨rfl,(uh LL).below⟩
    ·go_wp2_with (first|(go_at_call 105;refine(said_any _ _).mono ?_;rintro _ _ ⟨rfl,rfl⟩)|(go_at_call 104;refine(oneOfThree_any _ _).mono ?_;rintro _ _ ⟨rfl,rfl⟩))
     go_ret
     exact⟨rfl,(uh LL).below⟩
   ·go_wp2_with (first|(go_at_call 105;refine(said_any _ _).mono ?_;rintro _ _ ⟨rfl,rfl⟩)|(go_at_call 104;refine(oneOfThree_any _ _).mono ?_;rintro _ _ ⟨rfl,rfl⟩))
    go_ret
    exact⟨rfl,(uh LL).below⟩
  ·go_wp2_with (first|(go_at_call 105;refine(said_any _ _).mono ?_;rintro _ _ ⟨rfl,rfl⟩)|(go_at_call 104;refine(oneOfThree_any _ _).mono ?_;rintro _ _ ⟨rfl,rfl⟩))
   refine(uh HG _).mono ?_
   rintro _ w4 ⟨rfl,hb⟩
   clear f0 c0_0 c0_1 c0_2 c0_3 c0_4 c0_5 c0_6 c0_7 c0_8 c0_9 c0_10 c0_11 c0_12 c0_13 c0_14 c0_15 c0_16 c0_17
   replace LL:=hide ((uh LL).on hb)
   clear hb
   obtain⟨f0,c0_0,c0_1,c0_2,c0_3,c0_4,c0_5,c0_6,c0_7,c0_8,c0_9,c0_10,c0_11,c0_12,c0_13,c0_14,c0_15,c0_16,c0_17⟩:=(uh LL).one
   dsimp only at f0 c0_0 c0_1 c0_2 c0_3 c0_4 c0_5 c0_6 c0_7 c0_8 c0_9 c0_10 c0_11 c0_12 c0_13 c0_14 c0_15 c0_16 c0_17
   cases tg
   ·go_wp2_with (first|(go_at_call 105;refine(said_any _ _).mono ?_;rintro _ _ ⟨rfl,rfl⟩)|(go_at_call 104;refine(oneOfThree_any _ _).mono ?_;rintro _ _ ⟨rfl,rfl⟩))
    refine(uh HS _).mono ?_
    rintro _ w5 ⟨rfl,hb⟩
    clear f0 c0_0 c0_1 c0_2 c0_3 c0_4 c0_5 c0_6 c0_7 c0_8 c0_9 c0_10 c0_11 c0_12 c0_13 c0_14 c0_15 c0_16 c0_17
    replace LL:=hide ((uh LL).on hb)
    clear hb
    obtain⟨f0,c0_0,c0_1,c0_2,c0_3,c0_4,c0_5,c0_6,c0_7,c0_8,c0_9,c0_10,c0_11,c0_12,c0_13,c0_14,c0_15,c0_16,c0_17⟩:=(uh LL).one
    dsimp only at f0 c0_0 c0_1 c0_2 c0_3 c0_4 c0_5 c0_6 c0_7 c0_8 c0_9 c0_10 c0_11 c0_12 c0_13 c0_14 c0_15 c0_16 c0_17
    cases ts
    ·go_wp2_with (first|(go_at_call 105;refine(said_any _ _).mono ?_;rintro _ _ ⟨rfl,rfl⟩)|(go_at_call 104;refine(oneOfThree_any _ _).mono ?_;rintro _ _ ⟨rfl,rfl⟩))
     go_ret
     exact⟨rfl,(uh LL).below⟩
    ·go_wp2_with (first|(go_at_call 105;refine(said_any _ _).mono ?_;rintro _ _ ⟨rfl,rfl⟩)|(go_at_call 104;refine(oneOfThree_any _ _).mono ?_;rintro _ _ ⟨rfl,rfl⟩))
     go_ret
     exact⟨rfl,(uh LL).below⟩
   ·go_wp2_with (first|(go_at_call 105;refine(said_any _ _).mono ?_;rintro _ _ ⟨rfl,rfl⟩)|(go_at_call 104;refine(oneOfThree_any _ _).mono ?_;rintro _ _ ⟨rfl,rfl⟩))
    go_ret
    exact⟨rfl,(uh LL).below⟩
 ·go_wp2_with (first|(go_at_call 105;refine(said_any _ _).mono ?_;rintro _ _ ⟨rfl,rfl⟩)|(go_at_call 104;refine(oneOfThree_any _ _).mono ?_;rintro _ _ ⟨rfl,rfl⟩))
  refine(uh HG _).mono ?_
  rintro _ w6 ⟨rfl,hb⟩
  clear f0 c0_0 c0_1 c0_2 c0_3 c0_4 c0_5 c0_6 c0_7 c0_8 c0_9 c0_10 c0_11 c0_12 c0_13 c0_14 c0_15 c0_16 c0_17
  replace LL:=hide ((uh LL).on hb)
  clear hb
  obtain⟨f0,c0_0,c0_1,c0_2,c0_3,c0_4,c0_5,c0_6,c0_7,c0_8,c0_9,c0_10,c0_11,c0_12,c0_13,c0_14,c0_15,c0_16,c0_17⟩:=(uh LL).one
  dsimp only at f0 c0_0 c0_1 c0_2 c0_3 c0_4 c0_5 c0_6 c0_7 c0_8 c0_9 c0_10 c0_11 c0_12 c0_13 c0_14 c0_15 c0_16 c0_17
  cases tg
  ·go_wp2_with (first|(go_at_call 105;refine(said_any _ _).mono ?_;rintro _ _ ⟨rfl,rfl⟩)|(go_at_call 104;refine(oneOfThree_any _ _).mono ?_;rintro _ _ ⟨rfl,rfl⟩))
   refine(uh HS _).mono ?_
   rintro _ w7 ⟨rfl,hb⟩
   clear f0 c0_0 c0_1 c0_2 c0_3 c0_4 c0_5 c0_6 c0_7 c0_8 c0_9 c0_10 c0_11 c0_12 c0_13 c0_14 c0_15 c0_16 c0_17
   replace LL:=hide ((uh LL).on hb)
   clear hb
   obtain⟨f0,c0_0,c0_1,c0_2,c0_3,c0_4,c0_5,c0_6,c0_7,c0_8,c0_9,c0_10,c0_11,c0_12,c0_13,c0_14,c0_15,c0_16,c0_17⟩:=(uh LL).one
   dsimp only at f0 c0_0 c0_1 c0_2 c0_3 c0_4 c0_5 c0_6 c0_7 c0_8 c0_9 c0_10 c0_11 c0_12 c0_13 c0_14 c0_15 c0_16 c0_17
   cases ts
   ·go_wp2_with (first|(go_at_call 105;refine(said_any _ _).mono ?_;rintro _ _ ⟨rfl,rfl⟩)|(go_at_call 104;refine(oneOfThree_any _ _).mono ?_;rintro _ _ ⟨rfl,rfl⟩))
    go_ret
    exact⟨rfl,(uh LL).below⟩
   ·go_wp2_with (first|(go_at_call 105;refine(said_any _ _).mono ?_;rintro _ _ ⟨rfl,rfl⟩)|(go_at_call 104;refine(oneOfThree_any _ _).mono ?_;rintro _ _ ⟨rfl,rfl⟩))
    go_ret
    exact⟨rfl,(uh LL).below⟩
  ·go_wp2_with (first|(go_at_call 105;refine(said_any _ _).mono ?_;rintro _ _ ⟨rfl,rfl⟩)|(go_at_call 104;refine(oneOfThree_any _ _).mono ?_;rintro _ _ ⟨rfl,rfl⟩))
   go_ret
   exact⟨rfl,(uh LL).below⟩
theorem sound_any (d:DD) (hd:FD d) (w:World) (hT:Lib.Utf8Tabs 4 5 w):Calls Tryz.prog 84 #[d.agg] w fun e w'=>e= .returned (.bool (soundV d))/\Below w.heap.size w w':=by
 have HV:=hide (there_any d.v hd.1)
 have HC:=hide (fun w hT=>check_any d.v w hT)
 have HG:=hide (fun w hT=>callable_any d.g hd.2.1 w hT)
 have HS:=hide (fun w hT=>callable_any d.s hd.2.2 w hT)
 have HT:=hide hT
 clear hd hT
 have L0:=Lie.new1 w (.D d)
 obtain⟨v,g,s,a,e,c⟩:=d
 unfold soundV
 unfold DD.agg
 unfold PB.obj DD.obj at L0
 unfold VV.agg at *
 dsimp only at *
 have LL:=hide L0
 clear L0
 unfold errB at HC
 generalize thV v=tv at *
 generalize VV.good v=gv at *
 generalize callV g=cg at *
 generalize callV s=cs at *
 generalize hta:triV a=ta at *
 generalize hte:triV e=te at *
 generalize htc:triV c=tc at *
 go_enter Tryz.func84,Tryz.ntmps84
 go_wp2_with (first|(go_at_call 105;refine(said_any _ _).mono ?_;rintro _ _ ⟨rfl,rfl⟩)|(go_at_call 104;refine(oneOfThree_any _ _).mono ?_;rintro _ _ ⟨rfl,rfl⟩))
 refine(uh HV _).mono ?_
 rintro _ w1 ⟨rfl,hb⟩
 replace LL:=hide ((uh LL).on hb)
 clear hb
 obtain⟨f0,c0_0,c0_1,c0_2,c0_3,c0_4,c0_5,c0_6,c0_7,c0_8,c0_9,c0_10,c0_11,c0_12,c0_13,c0_14,c0_15,c0_16,c0_17⟩:=(uh LL).one
 dsimp only at f0 c0_0 c0_1 c0_2 c0_3 c0_4 c0_5 c0_6 c0_7 c0_8 c0_9 c0_10 c0_11 c0_12 c0_13 c0_14 c0_15 c0_16 c0_17
 cases tv
 ·go_wp2_with (first|(go_at_call 105;refine(said_any _ _).mono ?_;rintro _ _ ⟨rfl,rfl⟩)|(go_at_call 104;refine(oneOfThree_any _ _).mono ?_;rintro _ _ ⟨rfl,rfl⟩))
  refine(uh HG _ (tabs_below (uh HT) (uh LL).below)).mono ?_
  rintro _ w2 ⟨rfl,hb⟩
  clear f0 c0_0 c0_1 c0_2 c0_3 c0_4 c0_5 c0_6 c0_7 c0_8 c0_9 c0_10 c0_11 c0_12 c0_13 c0_14 c0_15 c0_16 c0_17
  replace LL:=hide ((uh LL).on hb)
  clear hb
  obtain⟨f0,c0_0,c0_1,c0_2,c0_3,c0_4,c0_5,c0_6,c0_7,c0_8,c0_9,c0_10,c0_11,c0_12,c0_13,c0_14,c0_15,c0_16,c0_17⟩:=(uh LL).one
  dsimp only at f0 c0_0 c0_1 c0_2 c0_3 c0_4 c0_5 c0_6 c0_7 c0_8 c0_9 c0_10 c0_11 c0_12 c0_13 c0_14 c0_15 c0_16 c0_17
  cases cg
  ·go_wp2_with (first|(go_at_call 105;refine(said_any _ _).mono ?_;rintro _ _ ⟨rfl,rfl⟩)|(go_at_call 104;refine(oneOfThree_any _ _).mono ?_;rintro _ _ ⟨rfl,rfl⟩))
   go_ret
   exact⟨rfl,(uh LL).below⟩
  ·go_wp2_with (first|(go_at_call 105;refine(said_any _ _).mono ?_;rintro _ _ ⟨rfl,rfl⟩)|(go_at_call 104;refine(oneOfThree_any _ _).mono ?_;rintro _ _ ⟨rfl,rfl⟩))
   refine(uh HS _ (tabs_below (uh HT) (uh LL).below)).mono ?_
   rintro _ w3 ⟨rfl,hb⟩
   clear f0 c0_0 c0_1 c0_2 c0_3 c0_4 c0_5 c0_6 c0_7 c0_8 c0_9 c0_10 c0_11 c0_12 c0_13 c0_14 c0_15 c0_16 c0_17
   replace LL:=hide ((uh LL).on hb)
   clear hb
   obtain⟨f0,c0_0,c0_1,c0_2,c0_3,c0_4,c0_5,c0_6,c0_7,c0_8,c0_9,c0_10,c0_11,c0_12,c0_13,c0_14,c0_15,c0_16,c0_17⟩:=(uh LL).one
   dsimp only at f0 c0_0 c0_1 c0_2 c0_3 c0_4 c0_5 c0_6 c0_7 c0_8 c0_9 c0_10 c0_11 c0_12 c0_13 c0_14 c0_15 c0_16 c0_17
   cases cs
   ·go_wp2_with (first|(go_at_call 105;refine(said_any _ _).mono ?_;rintro _ _ ⟨rfl,rfl⟩)|(go_at_call 104;refine(oneOfThree_any _ _).mono ?_;rintro _ _ ⟨rfl,rfl⟩))
    go_ret
    exact⟨rfl,(uh LL).below⟩
   ·cases ta
    ·go_wp2_with (first|(go_at_call 105;refine(said_any _ _).mono ?_;rintro _ _ ⟨rfl,rfl⟩)|(go_at_call 104;refine(oneOfThree_any _ _).mono ?_;rintro _ _ ⟨rfl,rfl⟩))
     go_ret
     exact⟨rfl,(uh LL).below⟩
    ·cases te
     ·go_wp2_with (first|(go_at_call 105;refine(said_any _ _).mono ?_;rintro _ _ ⟨rfl,rfl⟩)|(go_at_call 104;refine(oneOfThree_any _ _).mono ?_;rintro _ _ ⟨rfl,rfl⟩))
      go_ret
      exact⟨rfl,(uh LL).below⟩
     ·go_wp2_with (first|(go_at_call 105;refine(said_any _ _).mono ?_;rintro _ _ ⟨rfl,rfl⟩)|(go_at_call 104;refine(oneOfThree_any _ _).mono ?_;rintro _ _ ⟨rfl,rfl⟩))
      go_ret
      exact⟨rfl,(uh LL).below⟩
 ·go_wp2_with (first|(go_at_call 105;refine(said_any _ _).mono ?_;rintro _ _ ⟨rfl,rfl⟩)|(go_at_call 104;refine(oneOfThree_any _ _).mono ?_;rintro _ _ ⟨rfl,rfl⟩))
  refine(uh HC _ (tabs_below (uh HT) (uh LL).below)).mono ?_
  rintro _ w4 ⟨rfl,hb⟩
  clear f0 c0_0 c0_1 c0_2 c0_3 c0_4 c0_5 c0_6 c0_7 c0_8 c0_9 c0_10 c0_11 c0_12 c0_13 c0_14 c0_15 c0_16 c0_17
  replace LL:=hide ((uh LL).on hb)
  clear hb
  obtain⟨f0,c0_0,c0_1,c0_2,c0_3,c0_4,c0_5,c0_6,c0_7,c0_8,c0_9,c0_10,c0_11,c0_12,c0_13,c0_14,c0_15,c0_16,c0_17⟩:=(uh LL).one
  dsimp only at f0 c0_0 c0_1 c0_2 c0_3 c0_4 c0_5 c0_6 c0_7 c0_8 c0_9 c0_10 c0_11 c0_12 c0_13 c0_14 c0_15 c0_16 c0_17
  cases gv
  ·go_wp2_with (first|(go_at_call 105;refine(said_any _ _).mono ?_;rintro _ _ ⟨rfl,rfl⟩)|(go_at_call 104;refine(oneOfThree_any _ _).mono ?_;rintro _ _ ⟨rfl,rfl⟩))
   go_ret
   exact⟨rfl,(uh LL).below⟩
  ·go_wp2_with (first|(go_at_call 105;refine(said_any _ _).mono ?_;rintro _ _ ⟨rfl,rfl⟩)|(go_at_call 104;refine(oneOfThree_any _ _).mono ?_;rintro _ _ ⟨rfl,rfl⟩))
   refine(uh HG _ (tabs_below (uh HT) (uh LL).below)).mono ?_
   rintro _ w5 ⟨rfl,hb⟩
   clear f0 c0_0 c0_1 c0_2 c0_3 c0_4 c0_5 c0_6 c0_7 c0_8 c0_9 c0_10 c0_11 c0_12 c0_13 c0_14 c0_15 c0_16 c0_17
   replace LL:=hide ((uh LL).on hb)
   clear hb
   obtain⟨f0,c0_0,c0_1,c0_2,c0_3,c0_4,c0_5,c0_6,c0_7,c0_8,c0_9,c0_10,c0_11,c0_12,c0_13,c0_14,c0_15,c0_16,c0_17⟩:=(uh LL).one
   dsimp only at f0 c0_0 c0_1 c0_2 c0_3 c0_4 c0_5 c0_6 c0_7 c0_8 c0_9 c0_10 c0_11 c0_12 c0_13 c0_14 c0_15 c0_16 c0_17
   cases cg
   ·go_wp2_with (first|(go_at_call 105;refine(said_any _ _).mono ?_;rintro _ _ ⟨rfl,rfl⟩)|(go_at_call 104;refine(oneOfThree_any _ _).mono ?_;rintro _ _ ⟨rfl,rfl⟩))
    go_ret
    exact⟨rfl,(uh LL).below⟩
   ·go_wp2_with (first|(go_at_call 105;refine(said_any _ _).mono ?_;rintro _ _ ⟨rfl,rfl⟩)|(go_at_call 104;refine(oneOfThree_any _ _).mono ?_;rintro _ _ ⟨rfl,rfl⟩))
    refine(uh HS _ (tabs_below (uh HT) (uh LL).below)).mono ?_
    rintro _ w6 ⟨rfl,hb⟩
    clear f0 c0_0 c0_1 c0_2 c0_3 c0_4 c0_5 c0_6 c0_7 c0_8 c0_9 c0_10 c0_11 c0_12 c0_13 c0_14 c0_15 c0_16 c0_17
    replace LL:=hide ((uh LL).on hb)
    clear hb
    obtain⟨f0,c0_0,c0_1,c0_2,c0_3,c0_4,c0_5,c0_6,c0_7,c0_8,c0_9,c0_10,c0_11,c0_12,c0_13,c0_14,c0_15,c0_16,c0_17⟩:=(uh LL).one
    dsimp only at f0 c0_0 c0_1 c0_2 c0_3 c0_4 c0_5 c0_6 c0_7 c0_8 c0_9 c0_10 c0_11 c0_12 c0_13 c0_14 c0_15 c0_16 c0_17
    cases cs
    ·go_wp2_with (first|(go_at_call 105;refine(said_any _ _).mono ?_;rintro _ _ ⟨rfl,rfl⟩)|(go_at_call 104;refine(oneOfThree_any _ _).mono ?_;rintro _ _ ⟨rfl,rfl⟩))
     go_ret
     exact⟨rfl,(uh LL).below⟩
    ·cases ta
     ·go_wp2_with (first|(go_at_call 105;refine(said_any _ _).mono ?_;rintro _ _ ⟨rfl,rfl⟩)|(go_at_call 104;refine(oneOfThree_any _ _).mono ?_;rintro _ _ ⟨rfl,rfl⟩))
      go_ret
      exact⟨rfl,(uh LL).below⟩
     ·cases te
      ·go_wp2_with (first|(go_at_call 105;refine(said_any _ _).mono ?_;rintro _ _ ⟨rfl,rfl⟩)|(go_at_call 104;refine(oneOfThree_any _ _).mono ?_;rintro _ _ ⟨rfl,rfl⟩))
       go_ret
       exact⟨rfl,(uh LL).below⟩
      ·go_wp2_with (first|(go_at_call 105;refine(said_any _ _).mono ?_;rintro _ _ ⟨rfl,rfl⟩)|(go_at_call 104;refine(oneOfThree_any _ _).mono ?_;rintro _ _ ⟨rfl,rfl⟩))
       go_ret
       exact⟨rfl,(uh LL).below⟩
end
section
open Go Go.Proofs Go.RowKit FM Tryz
def DD.cs (d:DD):List Value:= [.int .i64 d.v.k, .bool d.v.b, .float .f64 d.v.x, .string d.v.s, .int .i64 d.v.i, .int .i64 d.g.k, .bool d.g.b, .float .f64 d.g.x, .string d.g.s, .int .i64 d.g.i, .int .i64 d.s.k, .bool d.s.b, .float .f64 d.s.x, .string d.s.s, .int .i64 d.s.i, .int .i64 d.w, .int .i64 d.e, .int .i64 d.c]
def VV.cs (d:VV):List Value:= [.int .i64 d.k, .bool d.b, .float .f64 d.x, .string d.s, .int .i64 d.i]
theorem Lies.range {W:World} {B:Nat} {d:DD} (h:Lies W B d):W.rangeAt B 0 [.int .i64 d.v.k, .bool d.v.b, .float .f64 d.v.x, .string d.v.s, .int .i64 d.v.i, .int .i64 d.g.k, .bool d.g.b, .float .f64 d.g.x, .string d.g.s, .int .i64 d.g.i, .int .i64 d.s.k, .bool d.s.b, .float .f64 d.s.x, .string d.s.s, .int .i64 d.s.i, .int .i64 d.w, .int .i64 d.e, .int .i64 d.c]:=by
 intro j v hv
 obtain⟨-,h0,h1,h2,h3,h4,h5,h6,h7,h8,h9,h10,h11,h12,h13,h14,h15,h16,h17⟩:=h
 match j,hv with
 |0,hv=>exact(Option.some.inj hv)▸h0
 |1,hv=>exact(Option.some.inj hv)▸h1
 |2,hv=>exact(Option.some.inj hv)▸h2
 |3,hv=>exact(Option.some.inj hv)▸h3
 |4,hv=>exact(Option.some.inj hv)▸h4
 |5,hv=>exact(Option.some.inj hv)▸h5
 |6,hv=>exact(Option.some.inj hv)▸h6
 |7,hv=>exact(Option.some.inj hv)▸h7
 |8,hv=>exact(Option.some.inj hv)▸h8
 |9,hv=>exact(Option.some.inj hv)▸h9
 |10,hv=>exact(Option.some.inj hv)▸h10
 |11,hv=>exact(Option.some.inj hv)▸h11
 |12,hv=>exact(Option.some.inj hv)▸h12
 |13,hv=>exact(Option.some.inj hv)▸h13
 |14,hv=>exact(Option.some.inj hv)▸h14
 |15,hv=>exact(Option.some.inj hv)▸h15
 |16,hv=>exact(Option.some.inj hv)▸h16
 |17,hv=>exact(Option.some.inj hv)▸h17
 |_+18,hv=>exact absurd hv (by simp)
theorem Lies.rv {W:World} {B:Nat} {d:DD} (h:Lies W B d):W.rangeAt B 0 [.int .i64 d.v.k, .bool d.v.b, .float .f64 d.v.x, .string d.v.s, .int .i64 d.v.i]:=by
 intro j v hv
 obtain⟨-,h0,h1,h2,h3,h4,h5,h6,h7,h8,h9,h10,h11,h12,h13,h14,h15,h16,h17⟩:=h
 match j,hv with
 |0,hv=>exact(Option.some.inj hv)▸h0
 |1,hv=>exact(Option.some.inj hv)▸h1
 |2,hv=>exact(Option.some.inj hv)▸h2
 |3,hv=>exact(Option.some.inj hv)▸h3
 |4,hv=>exact(Option.some.inj hv)▸h4
 |_+5,hv=>exact absurd hv (by simp)
theorem Lies.rg {W:World} {B:Nat} {d:DD} (h:Lies W B d):W.rangeAt B 5 [.int .i64 d.g.k, .bool d.g.b, .float .f64 d.g.x, .string d.g.s, .int .i64 d.g.i]:=by
 intro j v hv
 obtain⟨-,h0,h1,h2,h3,h4,h5,h6,h7,h8,h9,h10,h11,h12,h13,h14,h15,h16,h17⟩:=h
 match j,hv with
 |0,hv=>exact(Option.some.inj hv)▸h5
 |1,hv=>exact(Option.some.inj hv)▸h6
 |2,hv=>exact(Option.some.inj hv)▸h7
 |3,hv=>exact(Option.some.inj hv)▸h8
 |4,hv=>exact(Option.some.inj hv)▸h9
 |_+5,hv=>exact absurd hv (by simp)
theorem Lies.rs {W:World} {B:Nat} {d:DD} (h:Lies W B d):W.rangeAt B 10 [.int .i64 d.s.k, .bool d.s.b, .float .f64 d.s.x, .string d.s.s, .int .i64 d.s.i]:=by
 intro j v hv
 obtain⟨-,h0,h1,h2,h3,h4,h5,h6,h7,h8,h9,h10,h11,h12,h13,h14,h15,h16,h17⟩:=h
 match j,hv with
 |0,hv=>exact(Option.some.inj hv)▸h10
 |1,hv=>exact(Option.some.inj hv)▸h11
 |2,hv=>exact(Option.some.inj hv)▸h12
 |3,hv=>exact(Option.some.inj hv)▸h13
 |4,hv=>exact(Option.some.inj hv)▸h14
 |_+5,hv=>exact absurd hv (by simp)
theorem info53:(prog.info? 53).map (·.size)=some 18:=by kernel_rfl
theorem isrow27: ∃d,prog.underlying 53=some d/\d.isRow=true:=⟨_,underlying53,rfl⟩
theorem info35':(prog.info? 35).map (·.size)=some 5:=by kernel_rfl
theorem isrow24: ∃d,prog.underlying 35=some d/\d.isRow=true:=⟨_,underlying35,rfl⟩
theorem load27 {ops:Array Oper} {rest:List Oper} {o:Oper} {a:Act} {w:World} {Q:Exit->Act->World->Prop} {x:Operand} {b:Nat} {d:DD} (hw:Region.wanted o (yielded ops a.tmps)=true) (ho:o.op= .load 53 x)
  (hx:a.eval x= .pointer (some ⟨b,0,none⟩)) (hc:Lies w b d) (h:wpList prog ops Q rest (a.put o.dst d.agg) w):wpList prog ops Q (o::rest) a w:=by
 obtain⟨t,hu,hd⟩:=isrow27
 refine BigFrame.wpList_want hw fun K hK=> ?_
 exact wp_load_mid 53 x ho b 0 hx _ t hc.range hu hd info53 (hK _ _ h)
theorem load24v {ops:Array Oper} {rest:List Oper} {o:Oper} {a:Act} {w:World} {Q:Exit->Act->World->Prop} {x:Operand} {b:Nat} {d:DD} (hw:Region.wanted o (yielded ops a.tmps)=true) (ho:o.op= .load 35 x)
  (hx:a.eval x= .pointer (some ⟨b,0,none⟩)) (hc:Lies w b d) (h:wpList prog ops Q rest (a.put o.dst d.v.agg) w):wpList prog ops Q (o::rest) a w:=by
 obtain⟨t,hu,hd⟩:=isrow24
 refine BigFrame.wpList_want hw fun K hK=> ?_
 exact wp_load_mid 35 x ho b 0 hx _ t hc.rv hu hd info35' (hK _ _ h)
theorem load24g {ops:Array Oper} {rest:List Oper} {o:Oper} {a:Act} {w:World} {Q:Exit->Act->World->Prop} {x:Operand} {b:Nat} {d:DD} (hw:Region.wanted o (yielded ops a.tmps)=true) (ho:o.op= .load 35 x)
  (hx:a.eval x= .pointer (some ⟨b,5,none⟩)) (hc:Lies w b d) (h:wpList prog ops Q rest (a.put o.dst d.g.agg) w):wpList prog ops Q (o::rest) a w:=by
 obtain⟨t,hu,hd⟩:=isrow24
 refine BigFrame.wpList_want hw fun K hK=> ?_
 exact wp_load_mid 35 x ho b 5 hx _ t hc.rg hu hd info35' (hK _ _ h)
theorem load24s {ops:Array Oper} {rest:List Oper} {o:Oper} {a:Act} {w:World} {Q:Exit->Act->World->Prop} {x:Operand} {b:Nat} {d:DD} (hw:Region.wanted o (yielded ops a.tmps)=true) (ho:o.op= .load 35 x)
  (hx:a.eval x= .pointer (some ⟨b,10,none⟩)) (hc:Lies w b d) (h:wpList prog ops Q rest (a.put o.dst d.s.agg) w):wpList prog ops Q (o::rest) a w:=by
 obtain⟨t,hu,hd⟩:=isrow24
 refine BigFrame.wpList_want hw fun K hK=> ?_
 exact wp_load_mid 35 x ho b 10 hx _ t hc.rs hu hd info35' (hK _ _ h)
theorem load25w {ops:Array Oper} {rest:List Oper} {o:Oper} {a:Act} {w:World} {Q:Exit->Act->World->Prop} {x:Operand} {b:Nat} {d:DD} (hw:Region.wanted o (yielded ops a.tmps)=true) (ho:o.op= .load 51 x)
  (hx:a.eval x= .pointer (some ⟨b,15,none⟩)) (hc:Lies w b d) (h:wpList prog ops Q rest (a.put o.dst (.int .i64 d.w)) w):wpList prog ops Q (o::rest) a w:=by
 obtain⟨-,h0,h1,h2,h3,h4,h5,h6,h7,h8,h9,h10,h11,h12,h13,h14,h15,h16,h17⟩:=hc
 refine BigFrame.wpList_want hw fun K hK=> ?_
 unfold Oper.wp execOp
 simp only[ho,hx]
 simp[go_sem,h15,isAgg51]
 exact hK _ _ h
theorem load25e {ops:Array Oper} {rest:List Oper} {o:Oper} {a:Act} {w:World} {Q:Exit->Act->World->Prop} {x:Operand} {b:Nat} {d:DD} (hw:Region.wanted o (yielded ops a.tmps)=true) (ho:o.op= .load 51 x)
  (hx:a.eval x= .pointer (some ⟨b,16,none⟩)) (hc:Lies w b d) (h:wpList prog ops Q rest (a.put o.dst (.int .i64 d.e)) w):wpList prog ops Q (o::rest) a w:=by
 obtain⟨-,h0,h1,h2,h3,h4,h5,h6,h7,h8,h9,h10,h11,h12,h13,h14,h15,h16,h17⟩:=hc
 refine BigFrame.wpList_want hw fun K hK=> ?_
 unfold Oper.wp execOp
 simp only[ho,hx]
 simp[go_sem,h16,isAgg51]
 exact hK _ _ h
theorem load25c {ops:Array Oper} {rest:List Oper} {o:Oper} {a:Act} {w:World} {Q:Exit->Act->World->Prop} {x:Operand} {b:Nat} {d:DD} (hw:Region.wanted o (yielded ops a.tmps)=true) (ho:o.op= .load 51 x)
  (hx:a.eval x= .pointer (some ⟨b,17,none⟩)) (hc:Lies w b d) (h:wpList prog ops Q rest (a.put o.dst (.int .i64 d.c)) w):wpList prog ops Q (o::rest) a w:=by
 obtain⟨-,h0,h1,h2,h3,h4,h5,h6,h7,h8,h9,h10,h11,h12,h13,h14,h15,h16,h17⟩:=hc
 refine BigFrame.wpList_want hw fun K hK=> ?_
 unfold Oper.wp execOp
 simp only[ho,hx]
 simp[go_sem,h17,isAgg51]
 exact hK _ _ h
