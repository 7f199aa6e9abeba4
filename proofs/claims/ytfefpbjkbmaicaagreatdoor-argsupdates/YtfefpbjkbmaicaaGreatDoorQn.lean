import Derived.Test.YtfefpbjkbmaicaaGreatDoorQm
set_option linter.all false
namespace Go.Proofs.YtfefpbjkbmaicaaGreatDoor
set_option maxRecDepth 100000
set_option maxHeartbeats 0
section
open Go Go.Proofs Go.RowKit FM
def Gf (d:DD):Bool:=(!thV d.v||d.v.good) && Kf d.g && Kf d.s && Ks d.w && Ks d.e && Ks d.c
def Gv (d:DD):Int:=if Gf d then Df d else 0
def Od (d:DD):Bool:=if Gv d==3 then (d.e !=0 && d.c !=0) && thV d.g && thV d.s else if Gv d==2 then (d.e !=0 && d.c !=0) && thV d.v && d.w !=0 else false
theorem Di (d:DD) (hd:FD d) (w:World):Calls Tryz.prog 83 #[d.agg] w fun e w'=>e= .returned (.int .i64 (Df d))/\Below w.heap.size w w':=by
 have HV:=Ac (Ey d.v hd.1)
 have HG:=Ac (Ey d.g hd.2.1)
 have HS:=Ac (Ey d.s hd.2.2)
 clear hd
 have L0:=Lie.new1 w (.D d)
 obtain⟨v,g,s,a,e,c⟩:=d
 unfold Df
 unfold DD.agg
 unfold PB.obj DD.obj at L0
 unfold VV.agg at *
 dsimp only at *
 have LL:=Ac L0
 clear L0
 generalize thV v=tv at *
 generalize thV g=tg at *
 generalize thV s=ts at *
 generalize hq:(a !=0)=q at *
 go_enter Tryz.func83,Tryz.ntmps83
 go_wp2_with (first|(go_at_call 100;refine(Ae _ _).mono ?_;rintro _ _ ⟨rfl,rfl⟩)|(go_at_call 99;refine(Ab _ _).mono ?_;rintro _ _ ⟨rfl,rfl⟩)|(go_at_call 72;refine(Ad _ _).mono ?_;rintro _ _ ⟨rfl,rfl⟩))
 refine(Aa HV _).mono ?_
 rintro _ w1 ⟨rfl,hb⟩
 replace LL:=Ac ((Aa LL).on hb)
 clear hb
 obtain⟨f0,c0_0,c0_1,c0_2,c0_3,c0_4,c0_5,c0_6,c0_7,c0_8,c0_9,c0_10,c0_11,c0_12,c0_13,c0_14,c0_15,c0_16,c0_17⟩:=(Aa LL).one
 dsimp only at f0 c0_0 c0_1 c0_2 c0_3 c0_4 c0_5 c0_6 c0_7 c0_8 c0_9 c0_10 c0_11 c0_12 c0_13 c0_14 c0_15 c0_16 c0_17
 cases tv
 ·cases q
  ·go_wp2_with (first|(go_at_call 100;refine(Ae _ _).mono ?_;rintro _ _ ⟨rfl,rfl⟩)|(go_at_call 99;refine(Ab _ _).mono ?_;rintro _ _ ⟨rfl,rfl⟩)|(go_at_call 72;refine(Ad _ _).mono ?_;rintro _ _ ⟨rfl,rfl⟩))
   refine(Aa HG _).mono ?_
   rintro _ w2 ⟨rfl,hb⟩
   clear f0 c0_0 c0_1 c0_2 c0_3 c0_4 c0_5 c0_6 c0_7 c0_8 c0_9 c0_10 c0_11 c0_12 c0_13 c0_14 c0_15 c0_16 c0_17
   replace LL:=Ac ((Aa LL).on hb)
   clear hb
   obtain⟨f0,c0_0,c0_1,c0_2,c0_3,c0_4,c0_5,c0_6,c0_7,c0_8,c0_9,c0_10,c0_11,c0_12,c0_13,c0_14,c0_15,c0_16,c0_17⟩:=(Aa LL).one
   dsimp only at f0 c0_0 c0_1 c0_2 c0_3 c0_4 c0_5 c0_6 c0_7 c0_8 c0_9 c0_10 c0_11 c0_12 c0_13 c0_14 c0_15 c0_16 c0_17
   cases tg
   ·go_wp2_with (first|(go_at_call 100;refine(Ae _ _).mono ?_;rintro _ _ ⟨rfl,rfl⟩)|(go_at_call 99;refine(Ab _ _).mono ?_;rintro _ _ ⟨rfl,rfl⟩)|(go_at_call 72;refine(Ad _ _).mono ?_;rintro _ _ ⟨rfl,rfl⟩))
    refine(Aa HS _).mono ?_
    rintro _ w3 ⟨rfl,hb⟩
    clear f0 c0_0 c0_1 c0_2 c0_3 c0_4 c0_5 c0_6 c0_7 c0_8 c0_9 c0_10 c0_11 c0_12 c0_13 c0_14 c0_15 c0_16 c0_17
    replace LL:=Ac ((Aa LL).on hb)
    clear hb
    obtain⟨f0,c0_0,c0_1,c0_2,c0_3,c0_4,c0_5,c0_6,c0_7,c0_8,c0_9,c0_10,c0_11,c0_12,c0_13,c0_14,c0_15,c0_16,c0_17⟩:=(Aa LL).one
    dsimp only at f0 c0_0 c0_1 c0_2 c0_3 c0_4 c0_5 c0_6 c0_7 c0_8 c0_9 c0_10 c0_11 c0_12 c0_13 c0_14 c0_15 c0_16 c0_17
    cases ts
    ·go_wp2_with (first|(go_at_call 100;refine(Ae _ _).mono ?_;rintro _ _ ⟨rfl,rfl⟩)|(go_at_call 99;refine(Ab _ _).mono ?_;rintro _ _ ⟨rfl,rfl⟩)|(go_at_call 72;refine(Ad _ _).mono ?_;rintro _ _ ⟨rfl,rfl⟩))
     go_ret
     exact⟨rfl,(Aa LL).below⟩
    ·go_wp2_with (first|(go_at_call 100;refine(Ae _ _).mono ?_;rintro _ _ ⟨rfl,rfl⟩)|(go_at_call 99;refine(Ab _ _).mono ?_;rintro _ _ ⟨rfl,rfl⟩)|(go_at_call 72;refine(Ad _ _).mono ?_;rintro _ _ ⟨rfl,rfl⟩))
     go_ret
     exact⟨rfl,(Aa LL).below⟩
   ·go_wp2_with (first|(go_at_call 100;refine(Ae _ _).mono ?_;rintro _ _ ⟨rfl,rfl⟩)|(go_at_call 99;refine(Ab _ _).mono ?_;rintro _ _ ⟨rfl,rfl⟩)|(go_at_call 72;refine(Ad _ _).mono ?_;rintro _ _ ⟨rfl,rfl⟩))
    go_ret
    exact⟨rfl,(Aa LL).below⟩
  ·go_wp2_with (first|(go_at_call 100;refine(Ae _ _).mono ?_;rintro _ _ ⟨rfl,rfl⟩)|(go_at_call 99;refine(Ab _ _).mono ?_;rintro _ _ ⟨rfl,rfl⟩)|(go_at_call 72;refine(Ad _ _).mono ?_;rintro _ _ ⟨rfl,rfl⟩))
   refine(Aa HG _).mono ?_
   rintro _ w4 ⟨rfl,hb⟩
   clear f0 c0_0 c0_1 c0_2 c0_3 c0_4 c0_5 c0_6 c0_7 c0_8 c0_9 c0_10 c0_11 c0_12 c0_13 c0_14 c0_15 c0_16 c0_17
   replace LL:=Ac ((Aa LL).on hb)
   clear hb
   obtain⟨f0,c0_0,c0_1,c0_2,c0_3,c0_4,c0_5,c0_6,c0_7,c0_8,c0_9,c0_10,c0_11,c0_12,c0_13,c0_14,c0_15,c0_16,c0_17⟩:=(Aa LL).one
   dsimp only at f0 c0_0 c0_1 c0_2 c0_3 c0_4 c0_5 c0_6 c0_7 c0_8 c0_9 c0_10 c0_11 c0_12 c0_13 c0_14 c0_15 c0_16 c0_17
   cases tg
   ·go_wp2_with (first|(go_at_call 100;refine(Ae _ _).mono ?_;rintro _ _ ⟨rfl,rfl⟩)|(go_at_call 99;refine(Ab _ _).mono ?_;rintro _ _ ⟨rfl,rfl⟩)|(go_at_call 72;refine(Ad _ _).mono ?_;rintro _ _ ⟨rfl,rfl⟩))
    refine(Aa HS _).mono ?_
    rintro _ w5 ⟨rfl,hb⟩
    clear f0 c0_0 c0_1 c0_2 c0_3 c0_4 c0_5 c0_6 c0_7 c0_8 c0_9 c0_10 c0_11 c0_12 c0_13 c0_14 c0_15 c0_16 c0_17
    replace LL:=Ac ((Aa LL).on hb)
    clear hb
    obtain⟨f0,c0_0,c0_1,c0_2,c0_3,c0_4,c0_5,c0_6,c0_7,c0_8,c0_9,c0_10,c0_11,c0_12,c0_13,c0_14,c0_15,c0_16,c0_17⟩:=(Aa LL).one
    dsimp only at f0 c0_0 c0_1 c0_2 c0_3 c0_4 c0_5 c0_6 c0_7 c0_8 c0_9 c0_10 c0_11 c0_12 c0_13 c0_14 c0_15 c0_16 c0_17
    cases ts
    ·go_wp2_with (first|(go_at_call 100;refine(Ae _ _).mono ?_;rintro _ _ ⟨rfl,rfl⟩)|(go_at_call 99;refine(Ab _ _).mono ?_;rintro _ _ ⟨rfl,rfl⟩)|(go_at_call 72;refine(Ad _ _).mono ?_;rintro _ _ ⟨rfl,rfl⟩))
     go_ret
     exact⟨rfl,(Aa LL).below⟩
    ·go_wp2_with (first|(go_at_call 100;refine(Ae _ _).mono ?_;rintro _ _ ⟨rfl,rfl⟩)|(go_at_call 99;refine(Ab _ _).mono ?_;rintro _ _ ⟨rfl,rfl⟩)|(go_at_call 72;refine(Ad _ _).mono ?_;rintro _ _ ⟨rfl,rfl⟩))
     go_ret
     exact⟨rfl,(Aa LL).below⟩
   ·go_wp2_with (first|(go_at_call 100;refine(Ae _ _).mono ?_;rintro _ _ ⟨rfl,rfl⟩)|(go_at_call 99;refine(Ab _ _).mono ?_;rintro _ _ ⟨rfl,rfl⟩)|(go_at_call 72;refine(Ad _ _).mono ?_;rintro _ _ ⟨rfl,rfl⟩))
    go_ret
    exact⟨rfl,(Aa LL).below⟩
 ·go_wp2_with (first|(go_at_call 100;refine(Ae _ _).mono ?_;rintro _ _ ⟨rfl,rfl⟩)|(go_at_call 99;refine(Ab _ _).mono ?_;rintro _ _ ⟨rfl,rfl⟩)|(go_at_call 72;refine(Ad _ _).mono ?_;rintro _ _ ⟨rfl,rfl⟩))
  refine(Aa HG _).mono ?_
  rintro _ w6 ⟨rfl,hb⟩
  clear f0 c0_0 c0_1 c0_2 c0_3 c0_4 c0_5 c0_6 c0_7 c0_8 c0_9 c0_10 c0_11 c0_12 c0_13 c0_14 c0_15 c0_16 c0_17
  replace LL:=Ac ((Aa LL).on hb)
  clear hb
  obtain⟨f0,c0_0,c0_1,c0_2,c0_3,c0_4,c0_5,c0_6,c0_7,c0_8,c0_9,c0_10,c0_11,c0_12,c0_13,c0_14,c0_15,c0_16,c0_17⟩:=(Aa LL).one
  dsimp only at f0 c0_0 c0_1 c0_2 c0_3 c0_4 c0_5 c0_6 c0_7 c0_8 c0_9 c0_10 c0_11 c0_12 c0_13 c0_14 c0_15 c0_16 c0_17
  cases tg
  ·go_wp2_with (first|(go_at_call 100;refine(Ae _ _).mono ?_;rintro _ _ ⟨rfl,rfl⟩)|(go_at_call 99;refine(Ab _ _).mono ?_;rintro _ _ ⟨rfl,rfl⟩)|(go_at_call 72;refine(Ad _ _).mono ?_;rintro _ _ ⟨rfl,rfl⟩))
   refine(Aa HS _).mono ?_
   rintro _ w7 ⟨rfl,hb⟩
   clear f0 c0_0 c0_1 c0_2 c0_3 c0_4 c0_5 c0_6 c0_7 c0_8 c0_9 c0_10 c0_11 c0_12 c0_13 c0_14 c0_15 c0_16 c0_17
   replace LL:=Ac ((Aa LL).on hb)
   clear hb
   obtain⟨f0,c0_0,c0_1,c0_2,c0_3,c0_4,c0_5,c0_6,c0_7,c0_8,c0_9,c0_10,c0_11,c0_12,c0_13,c0_14,c0_15,c0_16,c0_17⟩:=(Aa LL).one
   dsimp only at f0 c0_0 c0_1 c0_2 c0_3 c0_4 c0_5 c0_6 c0_7 c0_8 c0_9 c0_10 c0_11 c0_12 c0_13 c0_14 c0_15 c0_16 c0_17
   cases ts
   ·go_wp2_with (first|(go_at_call 100;refine(Ae _ _).mono ?_;rintro _ _ ⟨rfl,rfl⟩)|(go_at_call 99;refine(Ab _ _).mono ?_;rintro _ _ ⟨rfl,rfl⟩)|(go_at_call 72;refine(Ad _ _).mono ?_;rintro _ _ ⟨rfl,rfl⟩))
    go_ret
    exact⟨rfl,(Aa LL).below⟩
   ·go_wp2_with (first|(go_at_call 100;refine(Ae _ _).mono ?_;rintro _ _ ⟨rfl,rfl⟩)|(go_at_call 99;refine(Ab _ _).mono ?_;rintro _ _ ⟨rfl,rfl⟩)|(go_at_call 72;refine(Ad _ _).mono ?_;rintro _ _ ⟨rfl,rfl⟩))
    go_ret
    exact⟨rfl,(Aa LL).below⟩
  ·go_wp2_with (first|(go_at_call 100;refine(Ae _ _).mono ?_;rintro _ _ ⟨rfl,rfl⟩)|(go_at_call 99;refine(Ab _ _).mono ?_;rintro _ _ ⟨rfl,rfl⟩)|(go_at_call 72;refine(Ad _ _).mono ?_;rintro _ _ ⟨rfl,rfl⟩))
   go_ret
   exact⟨rfl,(Aa LL).below⟩
theorem ZbY (d:DD) (hd:FD d) (w:World) (hT:Lib.Utf8Tabs 4 5 w):Calls Tryz.prog 82 #[d.agg] w fun e w'=>e= .returned (.bool (Gf d))/\Below w.heap.size w w':=by
 have HV:=Ac (Ey d.v hd.1)
 have HC:=Ac (fun w hT=>Jf d.v w hT)
 have HG:=Ac (fun w hT=>Py d.g hd.2.1 w hT)
 have HS:=Ac (fun w hT=>Py d.s hd.2.2 w hT)
 have HT:=Ac hT
 clear hd hT
 have L0:=Lie.new1 w (.D d)
 obtain⟨v,g,s,a,e,c⟩:=d
 unfold Gf
 unfold DD.agg
 unfold PB.obj DD.obj at L0
 unfold VV.agg at *
 dsimp only at *
 have LL:=Ac L0
 clear L0
 unfold Ql at HC
 generalize thV v=tv at *
 generalize VV.good v=gv at *
 generalize Kf g=cg at *
 generalize Kf s=cs at *
 generalize hta:Ks a=ta at *
 generalize hte:Ks e=te at *
 generalize htc:Ks c=tc at *
 go_enter Tryz.func82,Tryz.ntmps82
 go_wp2_with (first|(go_at_call 100;refine(Ae _ _).mono ?_;rintro _ _ ⟨rfl,rfl⟩)|(go_at_call 99;refine(Ab _ _).mono ?_;rintro _ _ ⟨rfl,rfl⟩)|(go_at_call 72;refine(Ad _ _).mono ?_;rintro _ _ ⟨rfl,rfl⟩))
 refine(Aa HV _).mono ?_
 rintro _ w1 ⟨rfl,hb⟩
 replace LL:=Ac ((Aa LL).on hb)
 clear hb
 obtain⟨f0,c0_0,c0_1,c0_2,c0_3,c0_4,c0_5,c0_6,c0_7,c0_8,c0_9,c0_10,c0_11,c0_12,c0_13,c0_14,c0_15,c0_16,c0_17⟩:=(Aa LL).one
 dsimp only at f0 c0_0 c0_1 c0_2 c0_3 c0_4 c0_5 c0_6 c0_7 c0_8 c0_9 c0_10 c0_11 c0_12 c0_13 c0_14 c0_15 c0_16 c0_17
 cases tv
 ·go_wp2_with (first|(go_at_call 100;refine(Ae _ _).mono ?_;rintro _ _ ⟨rfl,rfl⟩)|(go_at_call 99;refine(Ab _ _).mono ?_;rintro _ _ ⟨rfl,rfl⟩)|(go_at_call 72;refine(Ad _ _).mono ?_;rintro _ _ ⟨rfl,rfl⟩))
  refine(Aa HG _ (Bf (Aa HT) (Aa LL).below)).mono ?_
  rintro _ w2 ⟨rfl,hb⟩
  clear f0 c0_0 c0_1 c0_2 c0_3 c0_4 c0_5 c0_6 c0_7 c0_8 c0_9 c0_10 c0_11 c0_12 c0_13 c0_14 c0_15 c0_16 c0_17
  replace LL:=Ac ((Aa LL).on hb)
  clear hb
  obtain⟨f0,c0_0,c0_1,c0_2,c0_3,c0_4,c0_5,c0_6,c0_7,c0_8,c0_9,c0_10,c0_11,c0_12,c0_13,c0_14,c0_15,c0_16,c0_17⟩:=(Aa LL).one
  dsimp only at f0 c0_0 c0_1 c0_2 c0_3 c0_4 c0_5 c0_6 c0_7 c0_8 c0_9 c0_10 c0_11 c0_12 c0_13 c0_14 c0_15 c0_16 c0_17
  cases cg
  ·go_wp2_with (first|(go_at_call 100;refine(Ae _ _).mono ?_;rintro _ _ ⟨rfl,rfl⟩)|(go_at_call 99;refine(Ab _ _).mono ?_;rintro _ _ ⟨rfl,rfl⟩)|(go_at_call 72;refine(Ad _ _).mono ?_;rintro _ _ ⟨rfl,rfl⟩))
   go_ret
   exact⟨rfl,(Aa LL).below⟩
  ·go_wp2_with (first|(go_at_call 100;refine(Ae _ _).mono ?_;rintro _ _ ⟨rfl,rfl⟩)|(go_at_call 99;refine(Ab _ _).mono ?_;rintro _ _ ⟨rfl,rfl⟩)|(go_at_call 72;refine(Ad _ _).mono ?_;rintro _ _ ⟨rfl,rfl⟩))
   refine(Aa HS _ (Bf (Aa HT) (Aa LL).below)).mono ?_
   rintro _ w3 ⟨rfl,hb⟩
   clear f0 c0_0 c0_1 c0_2 c0_3 c0_4 c0_5 c0_6 c0_7 c0_8 c0_9 c0_10 c0_11 c0_12 c0_13 c0_14 c0_15 c0_16 c0_17
   replace LL:=Ac ((Aa LL).on hb)
   clear hb
   obtain⟨f0,c0_0,c0_1,c0_2,c0_3,c0_4,c0_5,c0_6,c0_7,c0_8,c0_9,c0_10,c0_11,c0_12,c0_13,c0_14,c0_15,c0_16,c0_17⟩:=(Aa LL).one
   dsimp only at f0 c0_0 c0_1 c0_2 c0_3 c0_4 c0_5 c0_6 c0_7 c0_8 c0_9 c0_10 c0_11 c0_12 c0_13 c0_14 c0_15 c0_16 c0_17
   cases cs
   ·go_wp2_with (first|(go_at_call 100;refine(Ae _ _).mono ?_;rintro _ _ ⟨rfl,rfl⟩)|(go_at_call 99;refine(Ab _ _).mono ?_;rintro _ _ ⟨rfl,rfl⟩)|(go_at_call 72;refine(Ad _ _).mono ?_;rintro _ _ ⟨rfl,rfl⟩))
    go_ret
    exact⟨rfl,(Aa LL).below⟩
   ·cases ta
    ·go_wp2_with (first|(go_at_call 100;refine(Ae _ _).mono ?_;rintro _ _ ⟨rfl,rfl⟩)|(go_at_call 99;refine(Ab _ _).mono ?_;rintro _ _ ⟨rfl,rfl⟩)|(go_at_call 72;refine(Ad _ _).mono ?_;rintro _ _ ⟨rfl,rfl⟩))
     go_ret
     exact⟨rfl,(Aa LL).below⟩
    ·cases te
     ·go_wp2_with (first|(go_at_call 100;refine(Ae _ _).mono ?_;rintro _ _ ⟨rfl,rfl⟩)|(go_at_call 99;refine(Ab _ _).mono ?_;rintro _ _ ⟨rfl,rfl⟩)|(go_at_call 72;refine(Ad _ _).mono ?_;rintro _ _ ⟨rfl,rfl⟩))
      go_ret
      exact⟨rfl,(Aa LL).below⟩
     ·go_wp2_with (first|(go_at_call 100;refine(Ae _ _).mono ?_;rintro _ _ ⟨rfl,rfl⟩)|(go_at_call 99;refine(Ab _ _).mono ?_;rintro _ _ ⟨rfl,rfl⟩)|(go_at_call 72;refine(Ad _ _).mono ?_;rintro _ _ ⟨rfl,rfl⟩))
      go_ret
      exact⟨rfl,(Aa LL).below⟩
 ·go_wp2_with (first|(go_at_call 100;refine(Ae _ _).mono ?_;rintro _ _ ⟨rfl,rfl⟩)|(go_at_call 99;refine(Ab _ _).mono ?_;rintro _ _ ⟨rfl,rfl⟩)|(go_at_call 72;refine(Ad _ _).mono ?_;rintro _ _ ⟨rfl,rfl⟩))
  refine(Aa HC _ (Bf (Aa HT) (Aa LL).below)).mono ?_
  rintro _ w4 ⟨rfl,hb⟩
  clear f0 c0_0 c0_1 c0_2 c0_3 c0_4 c0_5 c0_6 c0_7 c0_8 c0_9 c0_10 c0_11 c0_12 c0_13 c0_14 c0_15 c0_16 c0_17
  replace LL:=Ac ((Aa LL).on hb)
  clear hb
  obtain⟨f0,c0_0,c0_1,c0_2,c0_3,c0_4,c0_5,c0_6,c0_7,c0_8,c0_9,c0_10,c0_11,c0_12,c0_13,c0_14,c0_15,c0_16,c0_17⟩:=(Aa LL).one
  dsimp only at f0 c0_0 c0_1 c0_2 c0_3 c0_4 c0_5 c0_6 c0_7 c0_8 c0_9 c0_10 c0_11 c0_12 c0_13 c0_14 c0_15 c0_16 c0_17
  cases gv
  ·go_wp2_with (first|(go_at_call 100;refine(Ae _ _).mono ?_;rintro _ _ ⟨rfl,rfl⟩)|(go_at_call 99;refine(Ab _ _).mono ?_;rintro _ _ ⟨rfl,rfl⟩)|(go_at_call 72;refine(Ad _ _).mono ?_;rintro _ _ ⟨rfl,rfl⟩))
   go_ret
   exact⟨rfl,(Aa LL).below⟩
  ·go_wp2_with (first|(go_at_call 100;refine(Ae _ _).mono ?_;rintro _ _ ⟨rfl,rfl⟩)|(go_at_call 99;refine(Ab _ _).mono ?_;rintro _ _ ⟨rfl,rfl⟩)|(go_at_call 72;refine(Ad _ _).mono ?_;rintro _ _ ⟨rfl,rfl⟩))
   refine(Aa HG _ (Bf (Aa HT) (Aa LL).below)).mono ?_
   rintro _ w5 ⟨rfl,hb⟩
   clear f0 c0_0 c0_1 c0_2 c0_3 c0_4 c0_5 c0_6 c0_7 c0_8 c0_9 c0_10 c0_11 c0_12 c0_13 c0_14 c0_15 c0_16 c0_17
   replace LL:=Ac ((Aa LL).on hb)
   clear hb
   obtain⟨f0,c0_0,c0_1,c0_2,c0_3,c0_4,c0_5,c0_6,c0_7,c0_8,c0_9,c0_10,c0_11,c0_12,c0_13,c0_14,c0_15,c0_16,c0_17⟩:=(Aa LL).one
   dsimp only at f0 c0_0 c0_1 c0_2 c0_3 c0_4 c0_5 c0_6 c0_7 c0_8 c0_9 c0_10 c0_11 c0_12 c0_13 c0_14 c0_15 c0_16 c0_17
   cases cg
   ·go_wp2_with (first|(go_at_call 100;refine(Ae _ _).mono ?_;rintro _ _ ⟨rfl,rfl⟩)|(go_at_call 99;refine(Ab _ _).mono ?_;rintro _ _ ⟨rfl,rfl⟩)|(go_at_call 72;refine(Ad _ _).mono ?_;rintro _ _ ⟨rfl,rfl⟩))
    go_ret
    exact⟨rfl,(Aa LL).below⟩
   ·go_wp2_with (first|(go_at_call 100;refine(Ae _ _).mono ?_;rintro _ _ ⟨rfl,rfl⟩)|(go_at_call 99;refine(Ab _ _).mono ?_;rintro _ _ ⟨rfl,rfl⟩)|(go_at_call 72;refine(Ad _ _).mono ?_;rintro _ _ ⟨rfl,rfl⟩))
    refine(Aa HS _ (Bf (Aa HT) (Aa LL).below)).mono ?_
    rintro _ w6 ⟨rfl,hb⟩
    clear f0 c0_0 c0_1 c0_2 c0_3 c0_4 c0_5 c0_6 c0_7 c0_8 c0_9 c0_10 c0_11 c0_12 c0_13 c0_14 c0_15 c0_16 c0_17
    replace LL:=Ac ((Aa LL).on hb)
    clear hb
    obtain⟨f0,c0_0,c0_1,c0_2,c0_3,c0_4,c0_5,c0_6,c0_7,c0_8,c0_9,c0_10,c0_11,c0_12,c0_13,c0_14,c0_15,c0_16,c0_17⟩:=(Aa LL).one
    dsimp only at f0 c0_0 c0_1 c0_2 c0_3 c0_4 c0_5 c0_6 c0_7 c0_8 c0_9 c0_10 c0_11 c0_12 c0_13 c0_14 c0_15 c0_16 c0_17
    cases cs
    ·go_wp2_with (first|(go_at_call 100;refine(Ae _ _).mono ?_;rintro _ _ ⟨rfl,rfl⟩)|(go_at_call 99;refine(Ab _ _).mono ?_;rintro _ _ ⟨rfl,rfl⟩)|(go_at_call 72;refine(Ad _ _).mono ?_;rintro _ _ ⟨rfl,rfl⟩))
     go_ret
     exact⟨rfl,(Aa LL).below⟩
    ·cases ta
     ·go_wp2_with (first|(go_at_call 100;refine(Ae _ _).mono ?_;rintro _ _ ⟨rfl,rfl⟩)|(go_at_call 99;refine(Ab _ _).mono ?_;rintro _ _ ⟨rfl,rfl⟩)|(go_at_call 72;refine(Ad _ _).mono ?_;rintro _ _ ⟨rfl,rfl⟩))
      go_ret
      exact⟨rfl,(Aa LL).below⟩
     ·cases te
      ·go_wp2_with (first|(go_at_call 100;refine(Ae _ _).mono ?_;rintro _ _ ⟨rfl,rfl⟩)|(go_at_call 99;refine(Ab _ _).mono ?_;rintro _ _ ⟨rfl,rfl⟩)|(go_at_call 72;refine(Ad _ _).mono ?_;rintro _ _ ⟨rfl,rfl⟩))
       go_ret
       exact⟨rfl,(Aa LL).below⟩
      ·go_wp2_with (first|(go_at_call 100;refine(Ae _ _).mono ?_;rintro _ _ ⟨rfl,rfl⟩)|(go_at_call 99;refine(Ab _ _).mono ?_;rintro _ _ ⟨rfl,rfl⟩)|(go_at_call 72;refine(Ad _ _).mono ?_;rintro _ _ ⟨rfl,rfl⟩))
       go_ret
       exact⟨rfl,(Aa LL).below⟩
end
section
open Go Go.Proofs Go.RowKit FM Tryz
def DD.cs (d:DD):List Value:= [.int .i64 d.v.k, .bool d.v.b, .float .f64 d.v.x, .string d.v.s, .int .i64 d.v.i, .int .i64 d.g.k, .bool d.g.b, .float .f64 d.g.x, .string d.g.s, .int .i64 d.g.i, .int .i64 d.s.k, .bool d.s.b, .float .f64 d.s.x, .string d.s.s, .int .i64 d.s.i, .int .i64 d.w, .int .i64 d.e, .int .i64 d.c]
def VV.cs (d:VV):List Value:= [.int .i64 d.k, .bool d.b, .float .f64 d.x, .string d.s, .int .i64 d.i]
theorem Lies.range {W:World} {B:Nat} {d:DD} (h:Lies W B d):W.rangeAt B 0 [.int .i64 d.v.k, .bool d.v.b, .float .f64 d.v.x, .string d.v.s, .int .i64 d.v.i, .int .i64 d.g.k, .bool d.g.b, .float .f64 d.g.x, .string d.g.s, .int .i64 d.g.i, .int .i64 d.s.k, .bool d.s.b, .float .f64 d.s.x, .string d.s.s, .int .i64 d.s.i, .int .i64 d.w, .int .i64 d.e, .int .i64 d.c]:=by
 intro j v hv
 obtain⟨-,h0,h1,h2,h3,h4,h5,h6,h7,h8,h9,h10,h11,h12,h13,h14,h15,h16,h17⟩:=h
 match j,hv with
 |0,hv=>exact(Option.some.inj hv)▸h0
 |1,hv=>exact(Option.some.inj hv)▸h1
 |2,hv=>exact(Option.some.inj hv)▸h2
 |3,hv=>exact(Option.some.inj hv)▸h3
 |4,hv=>exact(Option.some.inj hv)▸h4
 |5,hv=>exact(Option.some.inj hv)▸h5
 |6,hv=>exact(Option.some.inj hv)▸h6
 |7,hv=>exact(Option.some.inj hv)▸h7
 |8,hv=>exact(Option.some.inj hv)▸h8
 |9,hv=>exact(Option.some.inj hv)▸h9
 |10,hv=>exact(Option.some.inj hv)▸h10
 |11,hv=>exact(Option.some.inj hv)▸h11
 |12,hv=>exact(Option.some.inj hv)▸h12
 |13,hv=>exact(Option.some.inj hv)▸h13
 |14,hv=>exact(Option.some.inj hv)▸h14
 |15,hv=>exact(Option.some.inj hv)▸h15
 |16,hv=>exact(Option.some.inj hv)▸h16
 |17,hv=>exact(Option.some.inj hv)▸h17
 |_+18,hv=>exact absurd hv (by simp)
theorem Lies.rv {W:World} {B:Nat} {d:DD} (h:Lies W B d):W.rangeAt B 0 [.int .i64 d.v.k, .bool d.v.b, .float .f64 d.v.x, .string d.v.s, .int .i64 d.v.i]:=by
 intro j v hv
 obtain⟨-,h0,h1,h2,h3,h4,h5,h6,h7,h8,h9,h10,h11,h12,h13,h14,h15,h16,h17⟩:=h
 match j,hv with
 |0,hv=>exact(Option.some.inj hv)▸h0
 |1,hv=>exact(Option.some.inj hv)▸h1
 |2,hv=>exact(Option.some.inj hv)▸h2
 |3,hv=>exact(Option.some.inj hv)▸h3
 |4,hv=>exact(Option.some.inj hv)▸h4
 |_+5,hv=>exact absurd hv (by simp)
theorem Lies.rg {W:World} {B:Nat} {d:DD} (h:Lies W B d):W.rangeAt B 5 [.int .i64 d.g.k, .bool d.g.b, .float .f64 d.g.x, .string d.g.s, .int .i64 d.g.i]:=by
 intro j v hv
 obtain⟨-,h0,h1,h2,h3,h4,h5,h6,h7,h8,h9,h10,h11,h12,h13,h14,h15,h16,h17⟩:=h
 match j,hv with
 |0,hv=>exact(Option.some.inj hv)▸h5
 |1,hv=>exact(Option.some.inj hv)▸h6
 |2,hv=>exact(Option.some.inj hv)▸h7
 |3,hv=>exact(Option.some.inj hv)▸h8
 |4,hv=>exact(Option.some.inj hv)▸h9
 |_+5,hv=>exact absurd hv (by simp)
theorem Lies.rs {W:World} {B:Nat} {d:DD} (h:Lies W B d):W.rangeAt B 10 [.int .i64 d.s.k, .bool d.s.b, .float .f64 d.s.x, .string d.s.s, .int .i64 d.s.i]:=by
 intro j v hv
 obtain⟨-,h0,h1,h2,h3,h4,h5,h6,h7,h8,h9,h10,h11,h12,h13,h14,h15,h16,h17⟩:=h
 match j,hv with
 |0,hv=>exact(Option.some.inj hv)▸h10
 |1,hv=>exact(Option.some.inj hv)▸h11
 |2,hv=>exact(Option.some.inj hv)▸h12
 |3,hv=>exact(Option.some.inj hv)▸h13
 |4,hv=>exact(Option.some.inj hv)▸h14
 |_+5,hv=>exact absurd hv (by simp)
theorem Qh:(prog.info? 29).map (·.size)=some 18:=by kernel_rfl
theorem Rf: ∃d,prog.underlying 29=some d/\d.isRow=true:=⟨_,underlying29,rfl⟩
theorem Nv:(prog.info? 26).map (·.size)=some 5:=by kernel_rfl
theorem Nu: ∃d,prog.underlying 26=some d/\d.isRow=true:=⟨_,underlying26,rfl⟩
theorem Bh {ops:Array Oper} {rest:List Oper} {o:Oper} {a:Act} {w:World} {Q:Exit->Act->World->Prop} {x:Operand} {b:Nat} {d:DD} (hw:Region.wanted o (yielded ops a.tmps)=true) (ho:o.op= .load 29 x)
  (hx:a.eval x= .pointer (some ⟨b,0,none⟩)) (hc:Lies w b d) (h:wpList prog ops Q rest (a.put o.dst d.agg) w):wpList prog ops Q (o::rest) a w:=by
 obtain⟨t,hu,hd⟩:=Rf
 refine BigFrame.wpList_want hw fun K hK=> ?_
 exact wp_load_mid 29 x ho b 0 hx _ t hc.range hu hd Qh (hK _ _ h)
theorem Bo {ops:Array Oper} {rest:List Oper} {o:Oper} {a:Act} {w:World} {Q:Exit->Act->World->Prop} {x:Operand} {b:Nat} {d:DD} (hw:Region.wanted o (yielded ops a.tmps)=true) (ho:o.op= .load 26 x)
  (hx:a.eval x= .pointer (some ⟨b,0,none⟩)) (hc:Lies w b d) (h:wpList prog ops Q rest (a.put o.dst d.v.agg) w):wpList prog ops Q (o::rest) a w:=by
 obtain⟨t,hu,hd⟩:=Nu
 refine BigFrame.wpList_want hw fun K hK=> ?_
 exact wp_load_mid 26 x ho b 0 hx _ t hc.rv hu hd Nv (hK _ _ h)
theorem Bt {ops:Array Oper} {rest:List Oper} {o:Oper} {a:Act} {w:World} {Q:Exit->Act->World->Prop} {x:Operand} {b:Nat} {d:DD} (hw:Region.wanted o (yielded ops a.tmps)=true) (ho:o.op= .load 26 x)
  (hx:a.eval x= .pointer (some ⟨b,5,none⟩)) (hc:Lies w b d) (h:wpList prog ops Q rest (a.put o.dst d.g.agg) w):wpList prog ops Q (o::rest) a w:=by
 obtain⟨t,hu,hd⟩:=Nu
 refine BigFrame.wpList_want hw fun K hK=> ?_
 exact wp_load_mid 26 x ho b 5 hx _ t hc.rg hu hd Nv (hK _ _ h)
theorem Bq {ops:Array Oper} {rest:List Oper} {o:Oper} {a:Act} {w:World} {Q:Exit->Act->World->Prop} {x:Operand} {b:Nat} {d:DD} (hw:Region.wanted o (yielded ops a.tmps)=true) (ho:o.op= .load 26 x)
  (hx:a.eval x= .pointer (some ⟨b,10,none⟩)) (hc:Lies w b d) (h:wpList prog ops Q rest (a.put o.dst d.s.agg) w):wpList prog ops Q (o::rest) a w:=by
 obtain⟨t,hu,hd⟩:=Nu
 refine BigFrame.wpList_want hw fun K hK=> ?_
 exact wp_load_mid 26 x ho b 10 hx _ t hc.rs hu hd Nv (hK _ _ h)
theorem Bl {ops:Array Oper} {rest:List Oper} {o:Oper} {a:Act} {w:World} {Q:Exit->Act->World->Prop} {x:Operand} {b:Nat} {d:DD} (hw:Region.wanted o (yielded ops a.tmps)=true) (ho:o.op= .load 27 x)
  (hx:a.eval x= .pointer (some ⟨b,15,none⟩)) (hc:Lies w b d) (h:wpList prog ops Q rest (a.put o.dst (.int .i64 d.w)) w):wpList prog ops Q (o::rest) a w:=by
 obtain⟨-,h0,h1,h2,h3,h4,h5,h6,h7,h8,h9,h10,h11,h12,h13,h14,h15,h16,h17⟩:=hc
 refine BigFrame.wpList_want hw fun K hK=> ?_
 unfold Oper.wp execOp
 simp only[ho,hx]
 simp[go_sem,h15,isAgg27]
 exact hK _ _ h
theorem Bj {ops:Array Oper} {rest:List Oper} {o:Oper} {a:Act} {w:World} {Q:Exit->Act->World->Prop} {x:Operand} {b:Nat} {d:DD} (hw:Region.wanted o (yielded ops a.tmps)=true) (ho:o.op= .load 27 x)
  (hx:a.eval x= .pointer (some ⟨b,16,none⟩)) (hc:Lies w b d) (h:wpList prog ops Q rest (a.put o.dst (.int .i64 d.e)) w):wpList prog ops Q (o::rest) a w:=by
 obtain⟨-,h0,h1,h2,h3,h4,h5,h6,h7,h8,h9,h10,h11,h12,h13,h14,h15,h16,h17⟩:=hc
 refine BigFrame.wpList_want hw fun K hK=> ?_
 unfold Oper.wp execOp
 simp only[ho,hx]
 simp[go_sem,h16,isAgg27]
 exact hK _ _ h
theorem At {ops:Array Oper} {rest:List Oper} {o:Oper} {a:Act} {w:World} {Q:Exit->Act->World->Prop} {x:Operand} {b:Nat} {d:DD} (hw:Region.wanted o (yielded ops a.tmps)=true) (ho:o.op= .load 27 x)
  (hx:a.eval x= .pointer (some ⟨b,17,none⟩)) (hc:Lies w b d) (h:wpList prog ops Q rest (a.put o.dst (.int .i64 d.c)) w):wpList prog ops Q (o::rest) a w:=by
 obtain⟨-,h0,h1,h2,h3,h4,h5,h6,h7,h8,h9,h10,h11,h12,h13,h14,h15,h16,h17⟩:=hc
 refine BigFrame.wpList_want hw fun K hK=> ?_
 unfold Oper.wp execOp
 simp only[ho,hx]
 simp[go_sem,h17,isAgg27]
 exact hK _ _ h
