import Derived.Test.YtfnohipnenkhoaaGreatDoorQm
import Derived.Test.YtfnohipnenkhoaaGreatDoorQj
import Derived.Carry
import Derived.Laws.StructEq
import Derived.Lib.ItoaMem
import Derived.Lib.AppendIntMem
set_option linter.all false
namespace Go.Proofs.YtfnohipnenkhoaaGreatDoor
set_option maxRecDepth 100000
set_option maxHeartbeats 0
section
open Go Go.Proofs Go.RowKit FM
def Ka (d:DD):Bool:=(!thV d.v||d.v.good) && Nc d.g && Nc d.s && Oz d.w && Oz d.e && Oz d.c
def Jj (d:DD):Int:=if Ka d then Dg d else 0
def wholeV (d:DD):Bool:=if Jj d==3 then (d.e !=0 && d.c !=0) && thV d.g && thV d.s else if Jj d==2 then (d.e !=0 && d.c !=0) && thV d.v && d.w !=0 else false
theorem Dd (d:DD) (hd:FD d) (w:World):Calls Tryz.prog 78 #[d.agg] w fun e w'=>e= .returned (.int .i64 (Dg d))/\Below w.heap.size w w':=by
 have HV:=Ab (Gj d.v hd.1)
 have HG:=Ab (Gj d.g hd.2.1)
 have HS:=Ab (Gj d.s hd.2.2)
 clear hd
 have L0:=Lie.new1 w (.D d)
 obtain⟨v,g,s,a,e,c⟩:=d
 unfold Dg
 unfold DD.agg
 unfold PB.obj DD.obj at L0
 unfold VV.agg at *
 dsimp only at *
 have LL:=Ab L0
 clear L0
 generalize thV v=tv at *
 generalize thV g=tg at *
 generalize thV s=ts at *
 generalize hq:(a !=0)=q at *
 go_enter Tryz.func78,Tryz.ntmps78
 go_wp2_with fail
 refine(Aa HV _).mono ?_
 rintro _ w1 ⟨rfl,hb⟩
 replace LL:=Ab ((Aa LL).on hb)
 clear hb
 obtain⟨f0,c0_0,c0_1,c0_2,c0_3,c0_4,c0_5,c0_6,c0_7,c0_8,c0_9,c0_10,c0_11,c0_12,c0_13,c0_14,c0_15,c0_16,c0_17⟩:=(Aa LL).one
 dsimp only at f0 c0_0 c0_1 c0_2 c0_3 c0_4 c0_5 c0_6 c0_7 c0_8 c0_9 c0_10 c0_11 c0_12 c0_13 c0_14 c0_15 c0_16 c0_17
 cases tv
 ·cases q
  ·go_wp2_with ((go_at_call 106;refine(Dy _ _).mono ?_;rintro _ _ ⟨rfl,rfl⟩))
   refine(Aa HG _).mono ?_
   rintro _ w2 ⟨rfl,hb⟩
   clear f0 c0_0 c0_1 c0_2 c0_3 c0_4 c0_5 c0_6 c0_7 c0_8 c0_9 c0_10 c0_11 c0_12 c0_13 c0_14 c0_15 c0_16 c0_17
   replace LL:=Ab ((Aa LL).on hb)
   clear hb
   obtain⟨f0,c0_0,c0_1,c0_2,c0_3,c0_4,c0_5,c0_6,c0_7,c0_8,c0_9,c0_10,c0_11,c0_12,c0_13,c0_14,c0_15,c0_16,c0_17⟩:=(Aa LL).one
   dsimp only at f0 c0_0 c0_1 c0_2 c0_3 c0_4 c0_5 c0_6 c0_7 c0_8 c0_9 c0_10 c0_11 c0_12 c0_13 c0_14 c0_15 c0_16 c0_17
   cases tg
   ·go_wp2_with fail
    refine(Aa HS _).mono ?_
    rintro _ w3 ⟨rfl,hb⟩
    clear f0 c0_0 c0_1 c0_2 c0_3 c0_4 c0_5 c0_6 c0_7 c0_8 c0_9 c0_10 c0_11 c0_12 c0_13 c0_14 c0_15 c0_16 c0_17
    replace LL:=Ab ((Aa LL).on hb)
    clear hb
    obtain⟨f0,c0_0,c0_1,c0_2,c0_3,c0_4,c0_5,c0_6,c0_7,c0_8,c0_9,c0_10,c0_11,c0_12,c0_13,c0_14,c0_15,c0_16,c0_17⟩:=(Aa LL).one
    dsimp only at f0 c0_0 c0_1 c0_2 c0_3 c0_4 c0_5 c0_6 c0_7 c0_8 c0_9 c0_10 c0_11 c0_12 c0_13 c0_14 c0_15 c0_16 c0_17
    cases ts
    ·go_wp2_with fail
     go_ret
     exact⟨rfl,(Aa LL).below⟩
    ·go_wp2_with fail
     go_ret
     exact⟨rfl,(Aa LL).below⟩
   ·go_wp2_with fail
    go_ret
    exact⟨rfl,(Aa LL).below⟩
  ·go_wp2_with ((go_at_call 106;refine(Dy _ _).mono ?_;rintro _ _ ⟨rfl,rfl⟩))
   refine(Aa HG _).mono ?_
   rintro _ w4 ⟨rfl,hb⟩
   clear f0 c0_0 c0_1 c0_2 c0_3 c0_4 c0_5 c0_6 c0_7 c0_8 c0_9 c0_10 c0_11 c0_12 c0_13 c0_14 c0_15 c0_16 c0_17
   replace LL:=Ab ((Aa LL).on hb)
   clear hb
   obtain⟨f0,c0_0,c0_1,c0_2,c0_3,c0_4,c0_5,c0_6,c0_7,c0_8,c0_9,c0_10,c0_11,c0_12,c0_13,c0_14,c0_15,c0_16,c0_17⟩:=(Aa LL).one
   dsimp only at f0 c0_0 c0_1 c0_2 c0_3 c0_4 c0_5 c0_6 c0_7 c0_8 c0_9 c0_10 c0_11 c0_12 c0_13 c0_14 c0_15 c0_16 c0_17
   cases tg
   ·go_wp2_with fail
    refine(Aa HS _).mono ?_
    rintro _ w5 ⟨rfl,hb⟩
    clear f0 c0_0 c0_1 c0_2 c0_3 c0_4 c0_5 c0_6 c0_7 c0_8 c0_9 c0_10 c0_11 c0_12 c0_13 c0_14 c0_15 c0_16 c0_17
    replace LL:=Ab ((Aa LL).on hb)
    clear hb
    obtain⟨f0,c0_0,c0_1,c0_2,c0_3,c0_4,c0_5,c0_6,c0_7,c0_8,c0_9,c0_10,c0_11,c0_12,c0_13,c0_14,c0_15,c0_16,c0_17⟩:=(Aa LL).one
    dsimp only at f0 c0_0 c0_1 c0_2 c0_3 c0_4 c0_5 c0_6 c0_7 c0_8 c0_9 c0_10 c0_11 c0_12 c0_13 c0_14 c0_15 c0_16 c0_17
    cases ts
    ·go_wp2_with fail
     go_ret
     exact⟨rfl,(Aa LL).below⟩
    ·go_wp2_with fail
     go_ret
     exact⟨rfl,(Aa LL).below⟩
   ·go_wp2_with fail
    go_ret
    exact⟨rfl,(Aa LL).below⟩
 ·go_wp2_with fail
  refine(Aa HG _).mono ?_
  rintro _ w6 ⟨rfl,hb⟩
  clear f0 c0_0 c0_1 c0_2 c0_3 c0_4 c0_5 c0_6 c0_7 c0_8 c0_9 c0_10 c0_11 c0_12 c0_13 c0_14 c0_15 c0_16 c0_17
  replace LL:=Ab ((Aa LL).on hb)
  clear hb
  obtain⟨f0,c0_0,c0_1,c0_2,c0_3,c0_4,c0_5,c0_6,c0_7,c0_8,c0_9,c0_10,c0_11,c0_12,c0_13,c0_14,c0_15,c0_16,c0_17⟩:=(Aa LL).one
  dsimp only at f0 c0_0 c0_1 c0_2 c0_3 c0_4 c0_5 c0_6 c0_7 c0_8 c0_9 c0_10 c0_11 c0_12 c0_13 c0_14 c0_15 c0_16 c0_17
  cases tg
  ·go_wp2_with fail
   refine(Aa HS _).mono ?_
   rintro _ w7 ⟨rfl,hb⟩
   clear f0 c0_0 c0_1 c0_2 c0_3 c0_4 c0_5 c0_6 c0_7 c0_8 c0_9 c0_10 c0_11 c0_12 c0_13 c0_14 c0_15 c0_16 c0_17
   replace LL:=Ab ((Aa LL).on hb)
   clear hb
   obtain⟨f0,c0_0,c0_1,c0_2,c0_3,c0_4,c0_5,c0_6,c0_7,c0_8,c0_9,c0_10,c0_11,c0_12,c0_13,c0_14,c0_15,c0_16,c0_17⟩:=(Aa LL).one
   dsimp only at f0 c0_0 c0_1 c0_2 c0_3 c0_4 c0_5 c0_6 c0_7 c0_8 c0_9 c0_10 c0_11 c0_12 c0_13 c0_14 c0_15 c0_16 c0_17
   cases ts
   ·go_wp2_with fail
    go_ret
    exact⟨rfl,(Aa LL).below⟩
   ·go_wp2_with fail
    go_ret
    exact⟨rfl,(Aa LL).below⟩
  ·go_wp2_with fail
   go_ret
   exact⟨rfl,(Aa LL).below⟩
theorem Zet (d:DD) (hd:FD d) (w:World) (hT:Lib.Utf8Tabs 1 2 w):Calls Tryz.prog 77 #[d.agg] w fun e w'=>e= .returned (.bool (Ka d))/\Below w.heap.size w w':=by
 have HV:=Ab (Gj d.v hd.1)
 have HC:=Ab (fun w hT=>Mf d.v w hT)
 have HG:=Ab (fun w hT=>Uw d.g hd.2.1 w hT)
 have HS:=Ab (fun w hT=>Uw d.s hd.2.2 w hT)
 have HT:=Ab hT
 clear hd hT
 have L0:=Lie.new1 w (.D d)
 obtain⟨v,g,s,a,e,c⟩:=d
 unfold Ka
 unfold DD.agg
 unfold PB.obj DD.obj at L0
 unfold VV.agg at *
 dsimp only at *
 have LL:=Ab L0
 clear L0
 unfold Zai at HC
 generalize thV v=tv at *
 generalize VV.good v=gv at *
 generalize Nc g=cg at *
 generalize Nc s=cs at *
 generalize hta:Oz a=ta at *
 generalize hte:Oz e=te at *
 generalize htc:Oz c=tc at *
 go_enter Tryz.func77,Tryz.ntmps77
 go_wp2_with fail
 refine(Aa HV _).mono ?_
 rintro _ w1 ⟨rfl,hb⟩
 replace LL:=Ab ((Aa LL).on hb)
 clear hb
 obtain⟨f0,c0_0,c0_1,c0_2,c0_3,c0_4,c0_5,c0_6,c0_7,c0_8,c0_9,c0_10,c0_11,c0_12,c0_13,c0_14,c0_15,c0_16,c0_17⟩:=(Aa LL).one
 dsimp only at f0 c0_0 c0_1 c0_2 c0_3 c0_4 c0_5 c0_6 c0_7 c0_8 c0_9 c0_10 c0_11 c0_12 c0_13 c0_14 c0_15 c0_16 c0_17
 cases tv
 ·go_wp2_with fail
  refine(Aa HG _ (Ar (Aa HT) (Aa LL).below)).mono ?_
  rintro _ w2 ⟨rfl,hb⟩
  clear f0 c0_0 c0_1 c0_2 c0_3 c0_4 c0_5 c0_6 c0_7 c0_8 c0_9 c0_10 c0_11 c0_12 c0_13 c0_14 c0_15 c0_16 c0_17
  replace LL:=Ab ((Aa LL).on hb)
  clear hb
  obtain⟨f0,c0_0,c0_1,c0_2,c0_3,c0_4,c0_5,c0_6,c0_7,c0_8,c0_9,c0_10,c0_11,c0_12,c0_13,c0_14,c0_15,c0_16,c0_17⟩:=(Aa LL).one
  dsimp only at f0 c0_0 c0_1 c0_2 c0_3 c0_4 c0_5 c0_6 c0_7 c0_8 c0_9 c0_10 c0_11 c0_12 c0_13 c0_14 c0_15 c0_16 c0_17
  cases cg
  ·go_wp2_with fail
   go_ret
   exact⟨rfl,(Aa LL).below⟩
  ·go_wp2_with fail
   refine(Aa HS _ (Ar (Aa HT) (Aa LL).below)).mono ?_
   rintro _ w3 ⟨rfl,hb⟩
   clear f0 c0_0 c0_1 c0_2 c0_3 c0_4 c0_5 c0_6 c0_7 c0_8 c0_9 c0_10 c0_11 c0_12 c0_13 c0_14 c0_15 c0_16 c0_17
   replace LL:=Ab ((Aa LL).on hb)
   clear hb
   obtain⟨f0,c0_0,c0_1,c0_2,c0_3,c0_4,c0_5,c0_6,c0_7,c0_8,c0_9,c0_10,c0_11,c0_12,c0_13,c0_14,c0_15,c0_16,c0_17⟩:=(Aa LL).one
   dsimp only at f0 c0_0 c0_1 c0_2 c0_3 c0_4 c0_5 c0_6 c0_7 c0_8 c0_9 c0_10 c0_11 c0_12 c0_13 c0_14 c0_15 c0_16 c0_17
   cases cs
   ·go_wp2_with fail
    go_ret
    exact⟨rfl,(Aa LL).below⟩
   ·cases ta
    ·go_wp2_with ((go_at_call 105;refine(Gx _ _).mono ?_;rintro _ _ ⟨rfl,rfl⟩))
     go_ret
     exact⟨rfl,(Aa LL).below⟩
    ·cases te
     ·go_wp2_with ((go_at_call 105;refine(Gx _ _).mono ?_;rintro _ _ ⟨rfl,rfl⟩))
      go_ret
      exact⟨rfl,(Aa LL).below⟩
     ·go_wp2_with ((go_at_call 105;refine(Gx _ _).mono ?_;rintro _ _ ⟨rfl,rfl⟩))
      go_ret
      exact⟨rfl,(Aa LL).below⟩
 ·go_wp2_with fail
  refine(Aa HC _ (Ar (Aa HT) (Aa LL).below)).mono ?_
  rintro _ w4 ⟨rfl,hb⟩
  clear f0 c0_0 c0_1 c0_2 c0_3 c0_4 c0_5 c0_6 c0_7 c0_8 c0_9 c0_10 c0_11 c0_12 c0_13 c0_14 c0_15 c0_16 c0_17
  replace LL:=Ab ((Aa LL).on hb)
  clear hb
  obtain⟨f0,c0_0,c0_1,c0_2,c0_3,c0_4,c0_5,c0_6,c0_7,c0_8,c0_9,c0_10,c0_11,c0_12,c0_13,c0_14,c0_15,c0_16,c0_17⟩:=(Aa LL).one
  dsimp only at f0 c0_0 c0_1 c0_2 c0_3 c0_4 c0_5 c0_6 c0_7 c0_8 c0_9 c0_10 c0_11 c0_12 c0_13 c0_14 c0_15 c0_16 c0_17
  cases gv
  ·go_wp2_with fail
   go_ret
   exact⟨rfl,(Aa LL).below⟩
  ·go_wp2_with fail
   refine(Aa HG _ (Ar (Aa HT) (Aa LL).below)).mono ?_
   rintro _ w5 ⟨rfl,hb⟩
   clear f0 c0_0 c0_1 c0_2 c0_3 c0_4 c0_5 c0_6 c0_7 c0_8 c0_9 c0_10 c0_11 c0_12 c0_13 c0_14 c0_15 c0_16 c0_17
   replace LL:=Ab ((Aa LL).on hb)
   clear hb
   obtain⟨f0,c0_0,c0_1,c0_2,c0_3,c0_4,c0_5,c0_6,c0_7,c0_8,c0_9,c0_10,c0_11,c0_12,c0_13,c0_14,c0_15,c0_16,c0_17⟩:=(Aa LL).one
   dsimp only at f0 c0_0 c0_1 c0_2 c0_3 c0_4 c0_5 c0_6 c0_7 c0_8 c0_9 c0_10 c0_11 c0_12 c0_13 c0_14 c0_15 c0_16 c0_17
   cases cg
   ·go_wp2_with fail
    go_ret
    exact⟨rfl,(Aa LL).below⟩
   ·go_wp2_with fail
    refine(Aa HS _ (Ar (Aa HT) (Aa LL).below)).mono ?_
    rintro _ w6 ⟨rfl,hb⟩
    clear f0 c0_0 c0_1 c0_2 c0_3 c0_4 c0_5 c0_6 c0_7 c0_8 c0_9 c0_10 c0_11 c0_12 c0_13 c0_14 c0_15 c0_16 c0_17
    replace LL:=Ab ((Aa LL).on hb)
    clear hb
    obtain⟨f0,c0_0,c0_1,c0_2,c0_3,c0_4,c0_5,c0_6,c0_7,c0_8,c0_9,c0_10,c0_11,c0_12,c0_13,c0_14,c0_15,c0_16,c0_17⟩:=(Aa LL).one
    dsimp only at f0 c0_0 c0_1 c0_2 c0_3 c0_4 c0_5 c0_6 c0_7 c0_8 c0_9 c0_10 c0_11 c0_12 c0_13 c0_14 c0_15 c0_16 c0_17
    cases cs
    ·go_wp2_with fail
     go_ret
     exact⟨rfl,(Aa LL).below⟩
    ·cases ta
     ·go_wp2_with ((go_at_call 105;refine(Gx _ _).mono ?_;rintro _ _ ⟨rfl,rfl⟩))
      go_ret
      exact⟨rfl,(Aa LL).below⟩
     ·cases te
      ·go_wp2_with ((go_at_call 105;refine(Gx _ _).mono ?_;rintro _ _ ⟨rfl,rfl⟩))
       go_ret
       exact⟨rfl,(Aa LL).below⟩
      ·go_wp2_with ((go_at_call 105;refine(Gx _ _).mono ?_;rintro _ _ ⟨rfl,rfl⟩))
       go_ret
       exact⟨rfl,(Aa LL).below⟩
end
section
open Go Go.Proofs Go.RowKit FM Tryz
def DD.cs (d:DD):List Value:= [.int .i64 d.v.k, .bool d.v.b, .float .f64 d.v.x, .string d.v.s, .int .i64 d.v.i, .int .i64 d.g.k, .bool d.g.b, .float .f64 d.g.x, .string d.g.s, .int .i64 d.g.i, .int .i64 d.s.k, .bool d.s.b, .float .f64 d.s.x, .string d.s.s, .int .i64 d.s.i, .int .i64 d.w, .int .i64 d.e, .int .i64 d.c]
def VV.cs (d:VV):List Value:= [.int .i64 d.k, .bool d.b, .float .f64 d.x, .string d.s, .int .i64 d.i]
theorem Lies.range {W:World} {B:Nat} {d:DD} (h:Lies W B d):W.rangeAt B 0 [.int .i64 d.v.k, .bool d.v.b, .float .f64 d.v.x, .string d.v.s, .int .i64 d.v.i, .int .i64 d.g.k, .bool d.g.b, .float .f64 d.g.x, .string d.g.s, .int .i64 d.g.i, .int .i64 d.s.k, .bool d.s.b, .float .f64 d.s.x, .string d.s.s, .int .i64 d.s.i, .int .i64 d.w, .int .i64 d.e, .int .i64 d.c]:=by
 intro j v hv
 obtain⟨-,h0,h1,h2,h3,h4,h5,h6,h7,h8,h9,h10,h11,h12,h13,h14,h15,h16,h17⟩:=h
 match j,hv with
 |0,hv=>exact(Option.some.inj hv)▸h0
 |1,hv=>exact(Option.some.inj hv)▸h1
 |2,hv=>exact(Option.some.inj hv)▸h2
 |3,hv=>exact(Option.some.inj hv)▸h3
 |4,hv=>exact(Option.some.inj hv)▸h4
 |5,hv=>exact(Option.some.inj hv)▸h5
 |6,hv=>exact(Option.some.inj hv)▸h6
 |7,hv=>exact(Option.some.inj hv)▸h7
 |8,hv=>exact(Option.some.inj hv)▸h8
 |9,hv=>exact(Option.some.inj hv)▸h9
 |10,hv=>exact(Option.some.inj hv)▸h10
 |11,hv=>exact(Option.some.inj hv)▸h11
 |12,hv=>exact(Option.some.inj hv)▸h12
 |13,hv=>exact(Option.some.inj hv)▸h13
 |14,hv=>exact(Option.some.inj hv)▸h14
 |15,hv=>exact(Option.some.inj hv)▸h15
 |16,hv=>exact(Option.some.inj hv)▸h16
 |17,hv=>exact(Option.some.inj hv)▸h17
 |_+18,hv=>exact absurd hv (by simp)
theorem Lies.rv {W:World} {B:Nat} {d:DD} (h:Lies W B d):W.rangeAt B 0 [.int .i64 d.v.k, .bool d.v.b, .float .f64 d.v.x, .string d.v.s, .int .i64 d.v.i]:=by
 intro j v hv
 obtain⟨-,h0,h1,h2,h3,h4,h5,h6,h7,h8,h9,h10,h11,h12,h13,h14,h15,h16,h17⟩:=h
 match j,hv with
 |0,hv=>exact(Option.some.inj hv)▸h0
 |1,hv=>exact(Option.some.inj hv)▸h1
 |2,hv=>exact(Option.some.inj hv)▸h2
 |3,hv=>exact(Option.some.inj hv)▸h3
 |4,hv=>exact(Option.some.inj hv)▸h4
 |_+5,hv=>exact absurd hv (by simp)
theorem Lies.rg {W:World} {B:Nat} {d:DD} (h:Lies W B d):W.rangeAt B 5 [.int .i64 d.g.k, .bool d.g.b, .float .f64 d.g.x, .string d.g.s, .int .i64 d.g.i]:=by
 intro j v hv
 obtain⟨-,h0,h1,h2,h3,h4,h5,h6,h7,h8,h9,h10,h11,h12,h13,h14,h15,h16,h17⟩:=h
 match j,hv with
 |0,hv=>exact(Option.some.inj hv)▸h5
 |1,hv=>exact(Option.some.inj hv)▸h6
 |2,hv=>exact(Option.some.inj hv)▸h7
 |3,hv=>exact(Option.some.inj hv)▸h8
 |4,hv=>exact(Option.some.inj hv)▸h9
 |_+5,hv=>exact absurd hv (by simp)
theorem Lies.rs {W:World} {B:Nat} {d:DD} (h:Lies W B d):W.rangeAt B 10 [.int .i64 d.s.k, .bool d.s.b, .float .f64 d.s.x, .string d.s.s, .int .i64 d.s.i]:=by
 intro j v hv
 obtain⟨-,h0,h1,h2,h3,h4,h5,h6,h7,h8,h9,h10,h11,h12,h13,h14,h15,h16,h17⟩:=h
 match j,hv with
 |0,hv=>exact(Option.some.inj hv)▸h10
 |1,hv=>exact(Option.some.inj hv)▸h11
 |2,hv=>exact(Option.some.inj hv)▸h12
 |3,hv=>exact(Option.some.inj hv)▸h13
 |4,hv=>exact(Option.some.inj hv)▸h14
 |_+5,hv=>exact absurd hv (by simp)
theorem Vf:(prog.info? 39).map (·.size)=some 18:=by kernel_rfl
theorem Yu: ∃d,prog.underlying 39=some d/\d.isRow=true:=⟨_,underlying39,rfl⟩
theorem Qh:(prog.info? 36).map (·.size)=some 5:=by kernel_rfl
theorem Qg: ∃d,prog.underlying 36=some d/\d.isRow=true:=⟨_,underlying36,rfl⟩
theorem De {ops:Array Oper} {rest:List Oper} {o:Oper} {a:Act} {w:World} {Q:Exit->Act->World->Prop} {x:Operand} {b:Nat} {d:DD} (hw:Region.wanted o (yielded ops a.tmps)=true) (ho:o.op= .load 39 x)
  (hx:a.eval x= .pointer (some ⟨b,0,none⟩)) (hc:Lies w b d) (h:wpList prog ops Q rest (a.put o.dst d.agg) w):wpList prog ops Q (o::rest) a w:=by
 obtain⟨t,hu,hd⟩:=Yu
 refine BigFrame.wpList_want hw fun K hK=> ?_
 exact wp_load_mid 39 x ho b 0 hx _ t hc.range hu hd Vf (hK _ _ h)
theorem Yq {ops:Array Oper} {rest:List Oper} {o:Oper} {a:Act} {w:World} {Q:Exit->Act->World->Prop} {x:Operand} {b:Nat} {d:DD} (hw:Region.wanted o (yielded ops a.tmps)=true) (ho:o.op= .load 36 x)
  (hx:a.eval x= .pointer (some ⟨b,0,none⟩)) (hc:Lies w b d) (h:wpList prog ops Q rest (a.put o.dst d.v.agg) w):wpList prog ops Q (o::rest) a w:=by
 obtain⟨t,hu,hd⟩:=Qg
 refine BigFrame.wpList_want hw fun K hK=> ?_
 exact wp_load_mid 36 x ho b 0 hx _ t hc.rv hu hd Qh (hK _ _ h)
theorem Ys {ops:Array Oper} {rest:List Oper} {o:Oper} {a:Act} {w:World} {Q:Exit->Act->World->Prop} {x:Operand} {b:Nat} {d:DD} (hw:Region.wanted o (yielded ops a.tmps)=true) (ho:o.op= .load 36 x)
  (hx:a.eval x= .pointer (some ⟨b,5,none⟩)) (hc:Lies w b d) (h:wpList prog ops Q rest (a.put o.dst d.g.agg) w):wpList prog ops Q (o::rest) a w:=by
 obtain⟨t,hu,hd⟩:=Qg
 refine BigFrame.wpList_want hw fun K hK=> ?_
 exact wp_load_mid 36 x ho b 5 hx _ t hc.rg hu hd Qh (hK _ _ h)
theorem Yr {ops:Array Oper} {rest:List Oper} {o:Oper} {a:Act} {w:World} {Q:Exit->Act->World->Prop} {x:Operand} {b:Nat} {d:DD} (hw:Region.wanted o (yielded ops a.tmps)=true) (ho:o.op= .load 36 x)
  (hx:a.eval x= .pointer (some ⟨b,10,none⟩)) (hc:Lies w b d) (h:wpList prog ops Q rest (a.put o.dst d.s.agg) w):wpList prog ops Q (o::rest) a w:=by
 obtain⟨t,hu,hd⟩:=Qg
 refine BigFrame.wpList_want hw fun K hK=> ?_
 exact wp_load_mid 36 x ho b 10 hx _ t hc.rs hu hd Qh (hK _ _ h)
theorem Ks {ops:Array Oper} {rest:List Oper} {o:Oper} {a:Act} {w:World} {Q:Exit->Act->World->Prop} {x:Operand} {b:Nat} {d:DD} (hw:Region.wanted o (yielded ops a.tmps)=true) (ho:o.op= .load 37 x)
  (hx:a.eval x= .pointer (some ⟨b,15,none⟩)) (hc:Lies w b d) (h:wpList prog ops Q rest (a.put o.dst (.int .i64 d.w)) w):wpList prog ops Q (o::rest) a w:=by
 obtain⟨-,h0,h1,h2,h3,h4,h5,h6,h7,h8,h9,h10,h11,h12,h13,h14,h15,h16,h17⟩:=hc
 refine BigFrame.wpList_want hw fun K hK=> ?_
 unfold Oper.wp execOp
 simp only[ho,hx]
 simp[go_sem,h15,isAgg37]
 exact hK _ _ h
theorem En {ops:Array Oper} {rest:List Oper} {o:Oper} {a:Act} {w:World} {Q:Exit->Act->World->Prop} {x:Operand} {b:Nat} {d:DD} (hw:Region.wanted o (yielded ops a.tmps)=true) (ho:o.op= .load 37 x)
  (hx:a.eval x= .pointer (some ⟨b,16,none⟩)) (hc:Lies w b d) (h:wpList prog ops Q rest (a.put o.dst (.int .i64 d.e)) w):wpList prog ops Q (o::rest) a w:=by
 obtain⟨-,h0,h1,h2,h3,h4,h5,h6,h7,h8,h9,h10,h11,h12,h13,h14,h15,h16,h17⟩:=hc
 refine BigFrame.wpList_want hw fun K hK=> ?_
 unfold Oper.wp execOp
 simp only[ho,hx]
 simp[go_sem,h16,isAgg37]
 exact hK _ _ h
theorem Ev {ops:Array Oper} {rest:List Oper} {o:Oper} {a:Act} {w:World} {Q:Exit->Act->World->Prop} {x:Operand} {b:Nat} {d:DD} (hw:Region.wanted o (yielded ops a.tmps)=true) (ho:o.op= .load 37 x)
  (hx:a.eval x= .pointer (some ⟨b,17,none⟩)) (hc:Lies w b d) (h:wpList prog ops Q rest (a.put o.dst (.int .i64 d.c)) w):wpList prog ops Q (o::rest) a w:=by
 obtain⟨-,h0,h1,h2,h3,h4,h5,h6,h7,h8,h9,h10,h11,h12,h13,h14,h15,h16,h17⟩:=hc
 refine BigFrame.wpList_want hw fun K hK=> ?_
 unfold Oper.wp execOp
 simp only[ho,hx]
 simp[go_sem,h17,isAgg37]
 exact hK _ _ h
end
section
open Go Go.Proofs Go.Maps Go.RowKit
structure Fr (w X:World) (E:List Nat):Prop where
 os:X.os=w.os
 tape:X.tape=w.tape
 output:X.output=w.output
 size:w.heap.size<=X.heap.size
 block: ∀b,b<w.heap.size->b ∉ E->X.heap[b]? =w.heap[b]?
theorem Fr.refl (w:World) (E:List Nat):Fr w w E:=⟨rfl,rfl,rfl,Nat.le_refl _,fun _ _ _=>rfl⟩
theorem Fr.trans {w X Y:World} {E E':List Nat} (h:Fr w X E) (k:Fr X Y E') (hE: ∀b∈E',b∈E∨w.heap.size<=b):Fr w Y E:=
 ⟨k.os.trans h.os,k.tape.trans h.tape,k.output.trans h.output,Nat.le_trans h.size k.size,fun b hb he=>
  (k.block b (Nat.lt_of_lt_of_le hb h.size) (fun he'=>(hE b he').elim he (fun h2=>by omega))).trans (h.block b hb he)⟩
theorem Fr.of_below {w X:World} (h:Below w.heap.size w X) (E:List Nat):Fr w X E:=⟨h.os,h.tape,h.output,h.size,fun b hb _=>h.block b hb⟩
theorem Fr.below {w X:World} (h:Fr w X []):Below w.heap.size w X:=⟨h.os,h.tape,h.output,h.size,fun b hb=>h.block b hb (by simp)⟩
theorem Fr.on {w X Y:World} {E:List Nat} (h:Fr w X E) (k:Below X.heap.size X Y):Fr w Y E:=h.trans (Fr.of_below k []) (by simp)
theorem Fr.mono {w X:World} {E E':List Nat} (h:Fr w X E) (hE: ∀b∈E,b∈E'∨w.heap.size<=b):Fr w X E':=(Fr.refl w E').trans h hE
theorem Fr.drew {w X:World} {E:List Nat} (h:Fr w X E):Fr w X.drew E:=⟨h.os,h.tape,h.output,h.size,h.block⟩
theorem Mw (b:Nat): ∀(vs:List Value) (o:Nat) (X:World),(X.setCells b o vs).os=X.os/\(X.setCells b o vs).tape=X.tape/\(X.setCells b o vs).output=X.output
 | [],_,_=>⟨rfl,rfl,rfl⟩
 |v::vs,o,X=>by
  obtain⟨h1,h2,h3⟩:=Mw b vs (o+1) (X.setCell ⟨b,o,none⟩ v)
  rw[World.setCells]
  exact⟨h1,h2,h3⟩
theorem Fr.setCells (X:World) (b p:Nat) (vs:List Value):Fr X (X.setCells b p vs) [b]:=
 ⟨(Mw b vs p X).1,(Mw b vs p X).2.1,(Mw b vs p X).2.2,by rw[Gn];exact Nat.le_refl _,fun g _ hg=>Gq b vs p X g (by simpa using hg)⟩
theorem Fr.grown {X Y:World} {row:Option Nat} (h:X.grownBy Y row):Fr X Y row.toList:=
 ⟨h.os,h.tape,h.output,h.size,fun b hb hE=>h.block b hb (fun e=>hE (by rw[←e];simp))⟩
structure Hq (w X:World) (E:List Nat) (L:List (Nat×List Value)):Prop where
 fr:Fr w X E
 all: ∀q∈L,Holds X q.1 q.2/\0<q.2.length
 nd:(L.map (·.1)).Nodup
theorem Hq.nil (w:World) (E:List Nat):Hq w w E []:=⟨Fr.refl _ _,(fun q hq=>by cases hq),by simp⟩
theorem Hq.lt {w X:World} {E:List Nat} {L:List (Nat×List Value)} (h:Hq w X E L): ∀q∈L,q.1<X.heap.size:=fun q hq=>(h.all q hq).1.lt (h.all q hq).2
theorem Hq.get {w X:World} {E:List Nat} {L:List (Nat×List Value)} (h:Hq w X E L) (i:Nat) {b:Nat} {cs:List Value} (hi:L[i]? =some (b,cs)):Holds X b cs:=(h.all _ (List.mem_of_getElem? hi)).1
theorem Hq.drew {w X:World} {E:List Nat} {L:List (Nat×List Value)} (h:Hq w X E L):Hq w X.drew E L:=⟨h.fr.drew,fun q hq=>⟨(h.all q hq).1.block rfl,(h.all q hq).2⟩,h.nd⟩
theorem Hq.on {w X Y:World} {E:List Nat} {L:List (Nat×List Value)} (h:Hq w X E L) (k:Below X.heap.size X Y):Hq w Y E L:=
 ⟨h.fr.on k,fun q hq=>⟨(h.all q hq).1.block (k.block _ (h.lt q hq)),(h.all q hq).2⟩,h.nd⟩
theorem Hq.step {w X Y:World} {E E':List Nat} {L:List (Nat×List Value)} (h:Hq w X E L) (k:Fr X Y E') (hE: ∀b∈E',b∈E∨w.heap.size<=b) (hL: ∀q∈L,q.1 ∉ E'):Hq w Y E L:=
 ⟨h.fr.trans k hE,fun q hq=>⟨(h.all q hq).1.block (k.block _ (h.lt q hq) (hL q hq)),(h.all q hq).2⟩,h.nd⟩
theorem Hq.add {w X:World} {E:List Nat} {L:List (Nat×List Value)} (h:Hq w X E L) {b:Nat} {cs:List Value} (hb:Holds X b cs) (hc:0<cs.length) (hn: ∀q∈L,q.1≠b):Hq w X E (L++ [(b,cs)]):=by
 refine⟨h.fr,fun q hq=> ?_, ?_⟩
 ·rcases List.mem_append.1 hq with hq|hq
  ·exact h.all q hq
  ·obtain rfl:q=(b,cs):=by simpa using hq
   exact⟨hb,hc⟩
 ·rw[List.map_append,List.nodup_append]
  refine⟨h.nd,by simp,fun x hx y hy=> ?_⟩
  obtain⟨q,hq,rfl⟩:=List.mem_map.1 hx
  obtain rfl:y=b:=by simpa using hy
  exact hn q hq
theorem Hq.new {w X:World} {E:List Nat} {L:List (Nat×List Value)} (h:Hq w X E L) (cs:List Value) (t:TypeId) (hc:0<cs.length):Hq w (X.alloc (Obj.cells cs.toArray t)) E (L++ [(X.heap.size,cs)]):=
 (h.on ((Below.refl _ _).alloc (Nat.le_refl _) _)).add (Holds.new X cs t) hc (fun q hq=>Nat.ne_of_lt (h.lt q hq))
theorem Hq.put {w X:World} {E:List Nat} {L:List (Nat×List Value)} (h:Hq w X E L) (i:Nat) {b:Nat} {cs:List Value} (hi:L[i]? =some (b,cs)) (p:Nat) (vs:List Value) (hp:p+vs.length<=cs.length) (hE:b∈E∨w.heap.size<=b):Hq w (X.setCells b p vs) E (L.set i (b,Bs cs p vs)):=by
 have hil:=(List.getElem?_eq_some_iff.1 hi).1
 have hie:=(List.getElem?_eq_some_iff.1 hi).2
 have hH:=h.get i hi
 have hlen:(Bs cs p vs).length=cs.length:=by simp[Bs];omega
 refine⟨h.fr.trans (Fr.setCells X b p vs) (by simpa using hE),fun q hq=> ?_, ?_⟩
 ·rcases List.getElem?_of_mem hq with ⟨j,hj⟩
  rw[List.getElem?_set] at hj
  split at hj
  ·rename_i e
   subst e
   obtain rfl:=Option.some.inj hj
   have h1:=(h.all _ (List.mem_of_getElem? hi)).2
   exact⟨hH.put p vs hp,by simpa [hlen] using h1⟩
  ·rename_i e
   have hm:=List.mem_of_getElem? hj
   refine⟨(h.all q hm).1.block (Gq b vs p X q.1 ?_),(h.all q hm).2⟩
   intro eb
   have hjl:=(List.getElem?_eq_some_iff.1 hj).1
   have h1:(L.map (·.1))[i]? =some b:=by simp[hi]
   have h2:(L.map (·.1))[j]? =some b:=by simp[hj,eb]
   have:=(List.getElem?_inj (by simpa using hil) h.nd).1 (h1.trans h2.symm)
   exact e this
 ·have e:(L.set i (b,Bs cs p vs)).map (·.1)=L.map (·.1):=by
   rw[List.map_set]
   apply List.ext_getElem?
   intro j
   rw[List.getElem?_set]
   split
   ·rename_i e
    subst e
    simp[hil,hie]
   ·rfl
  rw[e]
  exact h.nd
end
section
open Go Go.Proofs Go.RowKit
def goodK (k:KK):Bool:=(Qk k.s k.n).good
theorem Zcn (k:KK):goodK k=if k.n=0 then decide (k.s.size<=1048576) && vS k.s else decide (1<=k.n) && decide (k.n<=65536) && k.s.toList.isEmpty:=by
 unfold goodK Qk
 by_cases h:k.n=0
 ·rw[if_pos h,if_pos h]
  simp[VV.good,Mz,inG,Zbb,Zab,vS]
 ·rw[if_neg h,if_neg h]
  simp[VV.good,Mz,inG,Zbb]
  cases k.s.toList.isEmpty<;>simp
theorem Zu {k:KK} (h:goodK k=true):k.s.size<=1048576:=ZeJ h
theorem goodK_n {k:KK} (h:goodK k=true):0<=k.n/\k.n<=65536:=by
 rw[Zcn] at h
 by_cases hn:k.n=0
 ·omega
 ·rw[if_neg hn] at h
  simp at h
  omega
theorem subI (x y:Int) (hx: -1099511627776<=x/\x<=1099511627776) (hy: -1099511627776<=y/\y<=1099511627776) (w:World):(binOp .sub 3 (.int .i64 x) (.int .i64 y)).run Tryz.prog w= .ok (.int .i64 (x - y)) w:=by
 have e:IntKind.i64.wrap (x - y)=x - y:=by
  rw[IntKind.wrap_i64]
  omega
 simp[binOp,go_sem,e]
theorem kd_range (s:ByteArray) (n:Int):0<=ZaA s n/\ZaA s n<=2:=by
 unfold ZaA
 split
 ·split<;>omega
 ·omega
theorem kn_le (s:ByteArray) (n:Int):Zbu s n<=4294967294:=by
 unfold Zbu
 split
 ·cases h:Pm (Dz s) with
  |none=>simp
  |some m=>simpa using ZdV _ _ h
 ·omega
end
section
open Go Go.Proofs Go.Maps Go.RowKit Tryz
instance decK:DecidableEq KK:=fun a b=>decidable_of_iff (a.s=b.s/\a.n=b.n) ⟨fun h=>KK.ext' h.1 h.2,fun h=>h▸⟨rfl,rfl⟩⟩
structure RR where
 b:Nat
 k:KK
 d:DD
 n:Nat
 gone:Bool
def RR.cs (r:RR):List Value:=r.k.cs++(r.d.cs++ [.int .u64 r.n, .bool r.gone])
theorem Rk (d:DD):d.cs.length=18:=rfl
theorem Eu (r:RR):r.cs.length=22:=rfl
def Pf (l:List Nat):List Value:=l.map (fun b=> .pointer (some ⟨b,0,none⟩))
def OwnP (W:World) (v:Value) (l:List Nat):Prop:=W.ownsRow 0 156 1 v l.length (Pf l)
theorem OwnP.nil (W:World):OwnP W (.slice none 0 0) []:=⟨rfl, .inl ⟨rfl,rfl⟩⟩
theorem OwnP.lt {W:World} {v:Value} {l:List Nat} (h:OwnP W v l): ∀g,v.ownBlock=some g->g<W.heap.size:=fun g hg=>(World.ownsRow.lt h g hg).2
theorem OwnP.block {W W':World} {v:Value} {l:List Nat} (h:OwnP W v l) (he: ∀g,v.ownBlock=some g->W'.heap[g]? =W.heap[g]?):OwnP W' v l:=by
 obtain⟨h1,h2⟩:=h
 refine⟨h1, ?_⟩
 rcases h2 with h2|⟨g,cap,cur,rfl,h3,h4,h5⟩
 ·exact .inl h2
 ·exact .inr ⟨g,cap,cur,rfl,h3,(he g rfl).trans h4,h5⟩
structure TT where
 t:Nat
 m:Nat
 rv:Value
 rows:List RR
 last:Nat
def TT.live (T:TT):List RR:=T.rows.filter (fun r=> !r.gone)
def TT.find (T:TT) (k:KK):Option RR:=T.live.find? (fun r=>decide (r.k=k))
def TT.blocks (T:TT):List Nat:=T.t::T.m::(T.rv.ownBlock.toList++T.rows.map (·.b))
def TT.cs (T:TT):List Value:= [.map (some T.m),T.rv, .int .u64 T.last]
structure TT.Is (T:TT) (W:World):Prop where
 tab:Holds W T.t T.cs
 map:MapIs W T.m T.last T.live.length (fun k=>(T.find k).map (·.b))
 own:OwnP W T.rv (T.rows.map (·.b))
 rows: ∀r∈T.rows,Holds W r.b r.cs
 nd:T.blocks.Nodup
 rise:T.rows.Pairwise (fun a b=>a.n<b.n)
 num: ∀r∈T.rows,1<=r.n/\r.n<=T.last
 keys:T.live.Pairwise (fun a b=>a.k≠b.k)
 good: ∀r∈T.live,goodK r.k=true
theorem TT.Is.lt {T:TT} {W:World} (h:T.Is W): ∀b∈T.blocks,b<W.heap.size:=by
 intro b hb
 simp only[TT.blocks,List.mem_cons,List.mem_append,List.mem_map] at hb
 rcases hb with rfl|rfl|hb|⟨r,hr,rfl⟩
 ·exact h.tab.lt (by simp[TT.cs])
 ·exact h.map.lt
 ·exact h.own.lt b (by simpa using hb)
 ·exact(h.rows r hr).lt (by simp[Eu])
theorem TT.Is.block {T:TT} {W W':World} (h:T.Is W) (he: ∀b∈T.blocks,W'.heap[b]? =W.heap[b]?):T.Is W':=
 ⟨h.tab.block (he _ (by simp[TT.blocks])),h.map.block (he _ (by simp[TT.blocks])),h.own.block (fun g hg=>he g (by simp[TT.blocks,hg])),fun r hr=>(h.rows r hr).block (he _ (by
  simp only[TT.blocks,List.mem_cons,List.mem_append,List.mem_map]
  exact .inr (.inr (.inr ⟨r,hr,rfl⟩)))),h.nd,h.rise,h.num,h.keys,h.good⟩
theorem TT.Is.on {T:TT} {W W':World} (h:T.Is W) (hb:Below W.heap.size W W'):T.Is W':=h.block (fun b hb'=>hb.block b (h.lt b hb'))
theorem TT.Is.drew {T:TT} {W:World} (h:T.Is W):T.Is W.drew:=h.block (fun _ _=>rfl)
theorem TT.find_mem {T:TT} {k:KK} {r:RR} (h:T.find k=some r):r∈T.rows/\r.gone=false/\r.k=k:=by
 have h1:=List.mem_of_find?_eq_some h
 have h2:=List.find?_some h
 simp[TT.live] at h1 h2
 exact⟨h1.1,h1.2,h2⟩
section
variable {md : Region.Mode} {ops : Array Oper} {rest : List Oper} {Q : Exit → Act → World → Prop} {S : World → Prop} {w w0 : World} {fuel : Nat} {listed : Array Bool} {a : Act} {o : Oper}
theorem gsem (i:Nat) (dst:Option Tmp) (v:Value) (hi:ops[i]? =some o) (hs:Region.noSelect ops=true) (hf:Region.free md ops listed i=true) (hr:(Region.ready md ops listed).contains i=true)
  (hQ: ∀c a w,Q (.panic c) (a.put dst v) w->Q (.panic c) a w) (hd:o.dst=dst) (hw:Region.wanted o (yielded ops a.tmps)=true) (hy: ∀X,S X->(execOp a.eval o).run prog X= .ok (.value v) X)
  (hS:S w) (h:wpAnyH prog md ops Q S fuel (listed.setIfInBounds i true) (a.put dst v) w):wpAnyH prog md ops Q S (fuel+1) listed a w:=by
 subst hd
 exact wpAnyH_take hi hs hf hr hQ (Or.inl ⟨hw,hy⟩) hS h
theorem y1 (i:Nat) (dst:Option Tmp) (v:Value) (hi:ops[i]? =some o) (hy: ∀X,S X->(execOp a.eval o).run prog X= .ok (.value v) X) (hS:S w) (h:wpAnyH prog md ops Q S fuel (listed.setIfInBounds i true) (a.put dst v) w) (hs:Region.noSelect ops=true:=by kernel_rfl) (hf:Region.free md ops listed i=true:=by kernel_rfl) (hr:(Region.ready md ops listed).contains i=true:=by kernel_rfl) (hQ: ∀c a w,Q (.panic c) (a.put dst v) w->Q (.panic c) a w:=by exact fun _ _ _ h=>h) (hd:o.dst=dst:=by kernel_rfl) (hw:Region.wanted o (yielded ops a.tmps)=true:=by kernel_rfl):wpAnyH prog md ops Q S (fuel+1) listed a w:=gsem i dst v hi hs hf hr hQ hd hw hy hS h
theorem y0 (i:Nat) (dst:Option Tmp) (v:Value) (hi:ops[i]? =some o) (hS:S w) (h:wpAnyH prog md ops Q S fuel (listed.setIfInBounds i true) (a.put dst v) w) (hy: ∀X,S X->(execOp a.eval o).run prog X= .ok (.value v) X:=by intro _ _;kernel_rfl) (hs:Region.noSelect ops=true:=by kernel_rfl) (hf:Region.free md ops listed i=true:=by kernel_rfl) (hr:(Region.ready md ops listed).contains i=true:=by kernel_rfl) (hQ: ∀c a w,Q (.panic c) (a.put dst v) w->Q (.panic c) a w:=by exact fun _ _ _ h=>h) (hd:o.dst=dst:=by kernel_rfl) (hw:Region.wanted o (yielded ops a.tmps)=true:=by kernel_rfl):wpAnyH prog md ops Q S (fuel+1) listed a w:=gsem i dst v hi hs hf hr hQ hd hw hy hS h
theorem rd {v:Value} (hw:Region.wanted o (yielded ops a.tmps)=true) (hy:(execOp a.eval o).run prog w= .ok (.value v) w) (h:wpList prog ops Q rest (a.put o.dst v) w):wpList prog ops Q (o::rest) a w:=by
 refine BigFrame.wpList_want hw fun K hK=> ?_
 have hP:=hK _ _ h
 unfold Oper.wp
 rw[hy]
 exact hP
theorem Et (w:World) (b p:Nat) (ty:TypeId) (v:Value) (vs:List Value) (hv:v.cells.toList=vs) (ht:w.there b p vs.length) (hi:(prog.info? ty).map (·.size)=some vs.length) (h1: ∀u∈vs,u.oneCell'=true):
  (storeVar ty ⟨b,p,none⟩ v).run prog w= .ok () (w.setCells b p vs):=by
 have:=run_storeCells_cells (P:=prog) b p vs 0 w (fun j hj=>by simpa using (ht j hj).1) (fun j hj=>by simpa using (ht j hj).2) h1
 cases hq:prog.info? ty with
 |none=>simp[hq] at hi
 |some i=>
  have hs:v.cells.size=i.size:=by
   have e:v.cells.size=vs.length:=by rw[←hv];simp
   simp[hq] at hi;omega
  simp only[Nat.add_zero] at this
  simp[storeVar,sizeOf,typeInfo,hq,hs,hv,this]
theorem st {E:List Nat} {L:List (Nat×List Value)} {b p:Nat} {cs vs:List Value} {v:Value} {x y:Operand} (i:Nat) (t:TypeId) (hw:Region.wanted o (yielded ops a.tmps)=true) (ho:o.op= .store t x y) (hx:a.eval x= .pointer (some ⟨b,p,none⟩)) (hy:a.eval y=v)
  (hv:v.cells.toList=vs) (h1: ∀u∈vs,u.oneCell'=true) (hi:(prog.info? t).map (·.size)=some vs.length) (hL:Hq w0 w E L) (hg:L[i]? =some (b,cs)) (hp:p+vs.length<=cs.length) (hE:b∈E∨w0.heap.size<=b)
  (h: ∀X,Hq w0 X E (L.set i (b,Bs cs p vs))->Fr w X [b]->X.heap.size=w.heap.size->wpList prog ops Q rest (a.put o.dst undef) X):wpList prog ops Q (o::rest) a w:=by
 refine BigFrame.wpList_want hw fun K hK=> ?_
 have hP:=hK _ _ (h _ (hL.put i hg p vs hp hE) (Fr.setCells w b p vs) (Gn _ _ _))
 unfold Oper.wp execOp
 simp only[ho,hx,hy,Instr.storeAt,Instr.sureAddr,Sem.run_bind,Sem.run_pure,Result.andThen_ok,Et w b p t v vs hv ((hL.get i hg).there p vs.length hp) hi h1]
 exact hP
end
theorem Zch (w:World):Calls prog 50 #[] w fun e w'=> ∃T:TT,e= .returned (.pointer (some ⟨T.t,0,none⟩))/\T.Is w'/\T.rows= []/\T.last=0/\(∀b∈T.blocks,w.heap.size<=b)/\Below w.heap.size w w':=by
 have hmm:= @run_makeMap prog
 go_enter func50,ntmps50
 go_wp2
 go_ret
 have hN:=Holds.new (w.alloc (Obj.map #[] 0)) [.map (some w.heap.size), .slice none 0 0, .int .u64 0] 145
 have hM:=MapIs.made w
 have hz:(w.alloc (Obj.map #[] 0)).heap.size=w.heap.size+1:=by simp
 rw[hz] at hN
 have hb:Below w.heap.size w ((w.alloc (Obj.map #[] 0)).alloc (Obj.cells #[Value.map (some w.heap.size),Value.slice none 0 0,Value.int IntKind.u64 0] 145)):=((Below.refl _ _).alloc (Nat.le_refl _) _).alloc (by simp) _
 refine⟨⟨w.heap.size+1,w.heap.size, .slice none 0 0, [],0⟩,rfl,⟨hN, ?_,OwnP.nil _,(fun r hr=>by cases hr),by simp[TT.blocks,Value.ownBlock],by simp,(fun r hr=>by cases hr),by simp[TT.live],(fun r hr=>by simp[TT.live] at hr)⟩,rfl,rfl, ?_,hb⟩
 ·refine MapIs.block (w:=w.alloc (Obj.map #[] 0)) ?_ (Below.heap_alloc _ _ _ (by simp))
  exact hM
 ·intro b hb
  simp[TT.blocks,Value.ownBlock] at hb
  rcases hb with rfl|rfl<;>simp
theorem Zdh {o:Oper} {a:Act} {w:World} {m:Operand} {b n sz:Nat} {F:KK->Option Nat} (ho:o.op= .call {callee:= .builtin .len,args:= #[m],argTypes:= #[142]}) (hm:a.eval m= .map (some b)) (h:MapIs w b n sz F):(execOp a.eval o).run prog w= .ok (.value (.int .i64 sz)) w:=by
 simp[execOp,ho,resolve,invoke,builtin,hm,h.len o.type,Result.andThen]
theorem len30 (T:TT) (w:World) (hT:T.Is w):Calls prog 58 #[.pointer (some ⟨T.t,0,none⟩)] w fun e w'=>e= .returned (.int .i64 T.live.length)/\w'=w:=by
 have HT:=Ab hT
 clear hT
 go_enter func58,ntmps58
 go_wp2_with (first|go_skip|(refine rd rfl (Ad 142 isAgg142 rfl rfl (Aa HT).tab rfl) ?_;simp only[nn])|(refine rd rfl (Zdh rfl rfl (Aa HT).map) ?_;simp only[nn]))
 go_ret
 exact⟨rfl,rfl⟩
theorem TT.live_le (T:TT):T.live.length<=T.rows.length:=List.length_filter_le _ _
theorem ex_lenS {o:Oper} {a:Act} {w:World} {m:Operand} {v:Value} {l:List RR} (ho:o.op= .call {callee:= .builtin .len,args:= #[m],argTypes:= #[143]}) (hm:a.eval m=v) (h:OwnP w v (l.map (·.b))):(execOp a.eval o).run prog w= .ok (.value (.int .i64 (l.length:Nat))) w:=by
 have hv: ∃A c,v= .slice A l.length c:=by
  rcases h.2 with ⟨h1,h2⟩|⟨g,cap,cur,h1,h2⟩
  ·exact⟨none,0,by rw[h1];simp at h2;simp[h2]⟩
  ·exact⟨_,_,by rw[h1];simp;exact⟨rfl,rfl⟩⟩
 obtain⟨A,c,rfl⟩:=hv
 simp[execOp,ho,resolve,invoke,builtin,hm,Builtin.len_,Result.andThen,goInt,underlying143,run_underlying underlying143]
theorem ex_sub {o:Oper} {a:Act} {w:World} {x y:Operand} {m n:Nat} (ho:o.op= .binOp .sub 3 x y 3) (hx:a.eval x= .int .i64 (m:Nat)) (hy:a.eval y= .int .i64 (n:Nat)) (h:n<=m) (hm:m<=4000000):(execOp a.eval o).run prog w= .ok (.value (.int .i64 ((m - n:Nat):Int))) w:=by
 have e:((m - n:Nat):Int)=(m:Int) - (n:Int):=by omega
 rw[e]
 unfold execOp
 simp only[ho,hx,hy]
 have hs:=subI (m:Int) (n:Int) (by omega) (by omega) w
 simp[go_sem,eqGuard,hs,Result.andThen]
 rw[IntKind.wrap_i64]
 omega
theorem gaps38 (T:TT) (w:World) (hT:T.Is w) (hl:T.rows.length<=4000000):Calls prog 173 #[.pointer (some ⟨T.t,0,none⟩)] w fun e w'=>e= .returned (.int .i64 ((T.rows.length - T.live.length:Nat):Int))/\Below w.heap.size w w':=by
 have HT:=Ab hT
 clear hT
 go_enter func173,ntmps173
 go_wp2
 refine wp_region_held_drew (P:=prog) (S:=fun X=>T.Is X) (by kernel_rfl) (Aa HT).drew (fun hS0=> ?_)
 refine y0 0 (some 3) (.pointer (some ⟨T.t,0,none⟩)) rfl hS0 ?_
 simp only[nn]
 refine y0 1 (some 4) (.pointer (some ⟨T.t,0,none⟩)) rfl hS0 ?_
 simp only[nn]
 refine y0 2 (some 5) (.pointer (some ⟨T.t,1,none⟩)) rfl hS0 ?_
 simp only[nn]
 refine y1 3 (some 6) (T.rv) rfl (fun X hX=>Ad 143 isAgg143 rfl rfl (hX.tab) rfl) hS0 ?_
 simp only[nn]
 refine y1 4 (some 7) (.int .i64 (T.rows.length:Nat)) rfl (fun X hX=>ex_lenS rfl rfl hX.own) hS0 ?_
 simp only[nn]
 refine y0 5 (some 8) (.pointer (some ⟨T.t,0,none⟩)) rfl hS0 ?_
 simp only[nn]
 refine y0 6 (some 9) (.pointer (some ⟨T.t,0,none⟩)) rfl hS0 ?_
 simp only[nn]
 refine y0 7 (some 10) (.pointer (some ⟨T.t,0,none⟩)) rfl hS0 ?_
 simp only[nn]
 refine y1 8 (some 11) (.map (some T.m)) rfl (fun X hX=>Ad 142 isAgg142 rfl rfl (hX.tab) rfl) hS0 ?_
 simp only[nn]
 refine y1 9 (some 12) (.int .i64 (T.live.length:Nat)) rfl (fun X hX=>Zdh rfl rfl hX.map) hS0 ?_
 simp only[nn]
 refine y1 10 (some 13) (.int .i64 ((T.rows.length - T.live.length:Nat):Int)) rfl (fun X hX=>ex_sub rfl rfl rfl (by have:=T.live_le;omega) hl) hS0 ?_
 simp only[nn]
 refine y0 11 (some 2) (.int .i64 ((T.rows.length - T.live.length:Nat):Int)) rfl hS0 ?_
 simp only[nn]
 refine wpAnyH_done (by kernel_rfl) ?_ _
 try simp only[nn]
 go_wp2
 go_ret
 exact⟨rfl,(Below.refl _ _).drew⟩
theorem Nn (w:World) (a b:Array Value) (s t:TypeId):Below w.heap.size w ((w.alloc (Obj.cells a s)).alloc (Obj.cells b t)):=((Below.refl _ _).alloc (Nat.le_refl _) _).alloc (by simp) _
theorem Hq.two (w:World) (E:List Nat) (a b:List Value) (s t:TypeId) (ha:0<a.length) (hb:0<b.length):Hq w ((w.alloc (Obj.cells a.toArray s)).alloc (Obj.cells b.toArray t)) E [(w.heap.size,a),(w.heap.size+1,b)]:=by
 have h:=((Hq.nil w E).new a s ha).new b t hb
 rw[show (w.alloc (Obj.cells a.toArray s)).heap.size=w.heap.size+1 by simp] at h
 exact h
def getD (T:TT) (k:KK):DD:=((T.find k).map (·.d)).getD Ak
theorem Jq: ∃d,prog.underlying 48=some d/\d.isRow=true:=⟨_,underlying48,rfl⟩
theorem Zd: ∃d,prog.underlying 39=some d/\d.isRow=true:=⟨_,underlying39,rfl⟩
theorem row58: ∃d,prog.underlying 69=some d/\d.isRow=true:=⟨_,underlying69,rfl⟩
theorem Kn:(prog.info? 48).map (·.size)=some 2:=by kernel_rfl
theorem Pb:(prog.info? 39).map (·.size)=some 18:=by kernel_rfl
theorem siz58:(prog.info? 69).map (·.size)=some 20:=by kernel_rfl
theorem Oh {o:Oper} {a:Act} {w:World} {m x:Operand} {b n sz:Nat} {F:KK->Option Nat} {k:KK} {r:Option Nat} (ho:o.op= .lookup 142 m x true) (hm:a.eval m= .map (some b)) (hx:a.eval x=k.agg) (h:MapIs w b n sz F) (hk:OkK k) (hr:F k=r):(execOp a.eval o).run prog w= .ok (.value (.tuple #[pv r, .bool r.isSome])) w:=by
 subst hr
 simp[execOp,ho,hm,hx,h.look hk,Result.andThen]
theorem ret_ct {fn:Func} {R:Ending->World->Prop} {a:Act} {w:World} {b r q:Nat} {d:DD} {v:Value} {cs:List Value} (hr:fn.results= #[.cell r 39, .tmp q]) (hdf:a.defers= [])
  (hx:a.tmps.getD r undef= .pointer (some ⟨b,0,none⟩)) (hq:a.tmps.getD q undef=v) (hc:Holds w b cs) (hcs:(cs.drop 0).take 18=d.cs) (h:R (.returned (.tuple #[d.agg,v])) w):bodyPost prog fn R .ret a w:=by
 obtain⟨t,hu,hd⟩:=Zd
 have h0:=hc.mid 0 18
 rw[hcs] at h0
 have hl:=run_loadVar_mid (P:=prog) w b 0 39 _ t h0 hu hd Pb
 refine⟨hdf,_, ?_,h⟩
 simp only[Array.getD_eq_getD_getElem?] at hx hq
 unfold results
 simp[hr,hx,hq,hl,asAddr]
 try rfl
theorem Zx (T:TT) (k:KK) (w:World) (hT:T.Is w) (hk:OkK k):Calls prog 73 #[.pointer (some ⟨T.t,0,none⟩),k.agg] w fun e w'=>e= .returned (.tuple #[(getD T k).agg, .bool (T.find k).isSome])/\Below w.heap.size w w':=by
 cases hf:T.find k with
 |none=>
  have HT:=Ab (hT.on (Nn w k.cs.toArray Ak.cs.toArray 48 39))
  have LL:=Ab (Hq.two w [] k.cs Ak.cs 48 39 (Nat.succ_pos _) (Nat.succ_pos _))
  have hB2:Hid (w.heap.size<=w.heap.size+1):=Ab (Nat.le_succ _)
  clear hT
  rw[show k.agg= .agg k.cs.toArray from rfl]
  go_enter func73,ntmps73
  go_wp2
  refine wp_region_held_drew (P:=prog) (S:=fun X=>T.Is X/\Hq w X [] [(w.heap.size,k.cs),(w.heap.size+1,Ak.cs)]) (by kernel_rfl) ⟨(Aa HT).drew,(Aa LL).drew⟩ (fun hS0=> ?_)
  refine y0 0 (some 9) (.pointer (some ⟨T.t,0,none⟩)) rfl hS0 ?_
  simp only[nn]
  refine y0 1 (some 10) (.pointer (some ⟨T.t,0,none⟩)) rfl hS0 ?_
  simp only[nn]
  refine y0 2 (some 11) (.pointer (some ⟨T.t,0,none⟩)) rfl hS0 ?_
  simp only[nn]
  refine y1 3 (some 12) (.map (some T.m)) rfl (fun X hX=>Ad 142 isAgg142 rfl rfl (hX.1.tab) rfl) hS0 ?_
  simp only[nn]
  refine y1 4 (some 13) (k.agg) rfl (fun X hX=>Af (vs:=k.cs) 48 2 Jq Kn rfl rfl (hX.2.get 0 rfl) rfl rfl) hS0 ?_
  simp only[nn]
  refine y1 5 (some 14) (.tuple #[pv (none), .bool false]) rfl (fun X hX=>Oh (r:=none) rfl rfl rfl hX.1.map hk (by rw[hf];rfl)) hS0 ?_
  simp only[nn]
  refine y0 6 (some 8) (.tuple #[pv (none), .bool false]) rfl hS0 ?_
  simp only[nn]
  refine y0 7 (some 15) (pv (none)) rfl hS0 ?_
  simp only[nn]
  refine y0 9 (some 6) (pv (none)) rfl hS0 ?_
  simp only[nn]
  refine y0 8 (some 16) (.bool false) rfl hS0 ?_
  simp only[nn]
  refine y0 10 (some 7) (.bool false) rfl hS0 ?_
  simp only[nn]
  refine wpAnyH_done (by kernel_rfl) ?_ _
  try simp only[nn]
  replace HT:=Ab hS0.1
  replace LL:=Ab hS0.2
  clear hS0
  unfold pv
  go_wp2_with (first|go_skip|((refine st (vs:=Ak.cs) 1 39 (by rfl) rfl rfl rfl rfl (by simp[Ak,Av,DD.cs,VV.cs,Value.oneCell']) Pb (Aa LL) rfl (by simp[Rk]) (Or.inr (Aa hB2)) ?_);intro w3 L3 hf3 hs3;replace LL:=Ab L3;clear L3 hf3 hs3;simp only[nn]))
  refine ret_ct (d:=Ak) (r:=4) (q:=5) (b:=w.heap.size+1) rfl rfl rfl rfl ((Aa LL).get 1 rfl) rfl ⟨?_,(Aa LL).fr.below⟩
  unfold getD
  rw[hf]
  rfl
 |some r=>
  have HT:=Ab (hT.on (Nn w k.cs.toArray Ak.cs.toArray 48 39))
  have LL:=Ab (Hq.two w [] k.cs Ak.cs 48 39 (Nat.succ_pos _) (Nat.succ_pos _))
  have hB2:Hid (w.heap.size<=w.heap.size+1):=Ab (Nat.le_succ _)
  clear hT
  rw[show k.agg= .agg k.cs.toArray from rfl]
  go_enter func73,ntmps73
  go_wp2
  refine wp_region_held_drew (P:=prog) (S:=fun X=>T.Is X/\Hq w X [] [(w.heap.size,k.cs),(w.heap.size+1,Ak.cs)]) (by kernel_rfl) ⟨(Aa HT).drew,(Aa LL).drew⟩ (fun hS0=> ?_)
  refine y0 0 (some 9) (.pointer (some ⟨T.t,0,none⟩)) rfl hS0 ?_
  simp only[nn]
  refine y0 1 (some 10) (.pointer (some ⟨T.t,0,none⟩)) rfl hS0 ?_
  simp only[nn]
  refine y0 2 (some 11) (.pointer (some ⟨T.t,0,none⟩)) rfl hS0 ?_
  simp only[nn]
  refine y1 3 (some 12) (.map (some T.m)) rfl (fun X hX=>Ad 142 isAgg142 rfl rfl (hX.1.tab) rfl) hS0 ?_
  simp only[nn]
  refine y1 4 (some 13) (k.agg) rfl (fun X hX=>Af (vs:=k.cs) 48 2 Jq Kn rfl rfl (hX.2.get 0 rfl) rfl rfl) hS0 ?_
  simp only[nn]
  refine y1 5 (some 14) (.tuple #[pv (some r.b), .bool true]) rfl (fun X hX=>Oh (r:=some r.b) rfl rfl rfl hX.1.map hk (by rw[hf];rfl)) hS0 ?_
  simp only[nn]
  refine y0 6 (some 8) (.tuple #[pv (some r.b), .bool true]) rfl hS0 ?_
  simp only[nn]
  refine y0 7 (some 15) (pv (some r.b)) rfl hS0 ?_
  simp only[nn]
  refine y0 9 (some 6) (pv (some r.b)) rfl hS0 ?_
  simp only[nn]
  refine y0 8 (some 16) (.bool true) rfl hS0 ?_
  simp only[nn]
  refine y0 10 (some 7) (.bool true) rfl hS0 ?_
  simp only[nn]
  refine wpAnyH_done (by kernel_rfl) ?_ _
  try simp only[nn]
  replace HT:=Ab hS0.1
  replace LL:=Ab hS0.2
  clear hS0
  have HR:=Ab ((Aa HT).rows r (T.find_mem hf).1)
  unfold pv
  go_wp2_with (first|go_skip|((refine rd rfl (Af (vs:=r.d.cs) 39 18 Zd Pb rfl rfl (Aa HR) rfl rfl) ?_);simp only[nn])|((refine st (vs:=r.d.cs) 1 39 (by rfl) rfl rfl rfl rfl (by simp[DD.cs,VV.cs,Value.oneCell']) Pb (Aa LL) rfl (by simp[Rk]) (Or.inr (Aa hB2)) ?_);intro w3 L3 hf3 hs3;replace LL:=Ab L3;clear L3 hf3 hs3;simp only[nn]))
  refine ret_ct (d:=r.d) (r:=4) (q:=5) (b:=w.heap.size+1) rfl rfl rfl rfl ((Aa LL).get 1 rfl) rfl ⟨?_,(Aa LL).fr.below⟩
  unfold getD
  rw[hf]
  rfl
end
section
open Go Go.Proofs Go.RowKit
theorem all_take {l:List KK} {j:Nat} (h:j<l.length):(l.take (j+1)).all goodK=((l.take j).all goodK && goodK l[j]):=by
 rw[List.take_succ_eq_append_getElem h,List.all_append]
 simp
theorem all_not {l:List KK} {j:Nat} (h:j<l.length) (hg:goodK l[j]=false):l.all goodK=false:=by
 rw[List.all_eq_false]
 exact⟨l[j],List.getElem_mem h,by rw[hg];decide⟩
theorem neq23 (k:KK) (w:World):(binOp .neq 48 k.agg k.agg).run Tryz.prog w= .ok (.bool false) w:=by
 unfold KK.agg
 have ht:Tryz.prog.underlying 48=some (.struct (Tryz.prog.fieldsOf 48)):=by kernel_rfl
 rw[run_neq_struct,show (10000:Nat)=9998+1+1 from rfl,run_equalIn_struct _ _ _ _ _ ht (by kernel_rfl)]
 have hf:Tryz.prog.fieldsOf 48=(match Tryz.prog.underlying 48 with|some (.struct f)=>f|_=> #[]):=by kernel_rfl
 rw[hf,Tryz.underlying48]
 simp[Op.eqFields,go_sem,part]
theorem small72 (u:Nat) (h:u<100) (w:World):Calls Tryz.prog 198 #[.int .u64 (u:Nat), .int .i64 10] w fun e w'=>e= .returned (.string ⟨(Lib.decDigits u).toArray⟩)/\w'=w:=by
 have z:(u:Int)<100:=by omega
 have HS:=Ab (fun w=>Tryz.internal_strconv_small u h w)
 generalize Lib.decDigits u=d at *
 go_enter Tryz.func198,Tryz.ntmps198
 go_wp2_with fail
 refine(Aa HS _).mono ?_
 rintro e w1 ⟨rfl,rfl⟩
 go_wp2
 go_ret
 exact⟨rfl,rfl⟩
end
section
open Go Go.Proofs Go.RowKit Go.Sort
theorem holds0 (w:World) (T:TypeId) (nd:Nat) (hs:nd<=24):Sort.Holds (fun (b:UInt8)=>Value.int .u8 (b.toNat:Int)) (w.alloc (.cells Lib.zeros24 T)) w.heap.size 0 (Array.replicate nd (0:UInt8)):=fun j hj=>by
 have hj':j<nd:=by simpa using hj
 refine⟨?_,World.frozen?_alloc_new _ _ _ _⟩
 rw[World.cell?_alloc_new,Lib.zeros24_at _ (by omega),getElem!_pos _ j hj]
 simp
theorem fin0 (w:World) (o:Obj) (dk:Array UInt8) (k:Nat): ∃os,(Sort.putRow (fun (b:UInt8)=>Value.int .u8 (b.toNat:Int)) (w.alloc o) w.heap.size 0 dk).drewN k=Sort.grow (w.drewN k) os:=by
 rw[Sort.alloc_eq_grow]
 obtain⟨os',_,e⟩:=Sort.putRow_grow_new (fun (b:UInt8)=>Value.int .u8 (b.toNat:Int)) w #[o] w.heap.size 0 dk (Nat.le_refl _)
 exact⟨os',by rw[e];rfl⟩
end
section
open Go Go.Proofs Go.RowKit FM
theorem Ly {w W:World} {b:Nat} (hb:w.heap.size<=b): ∀(vs:List Value) (o:Nat) (W:World),Below w.heap.size w W->Below w.heap.size w (W.setCells b o vs)
 | [],_,_,h=>h
 |v::r,o,W,h=>Ly (W:=W) hb r (o+1) _ (h.setCell hb v)
theorem Mg {b:Nat}: ∀(vs:List Value) (o:Nat) (W:World),(W.setCells b o vs).heap.size=W.heap.size
 | [],_,_=>rfl
 |v::r,o,W=>by
  rw[World.setCells,Mg r (o+1)]
  simp
theorem PB.far {W:World} {B b o:Nat} {vs:List Value} {p:PB} (h:p.lies W B) (hne:B≠b):p.lies (W.setCells b o vs) B:=by
 cases p
 ·unfold PB.lies Lies at *
  simp only[World.frozen?_setCells,World.cell?_setCells_out b vs o W ⟨B,_,none⟩ (fun h1 _=>absurd h1 hne)]
  exact h
 ·unfold PB.lies VLies at *
  simp only[World.frozen?_setCells,World.cell?_setCells_out b vs o W ⟨B,_,none⟩ (fun h1 _=>absurd h1 hne)]
  exact h
theorem HoldsP.far {W:World} {b o:Nat} {vs:List Value}: ∀{l:List PB} {B:Nat},HoldsP W B l->b<B->HoldsP (W.setCells b o vs) B l
 | [],_,_,_=>trivial
 |_::_,_,h,hb=>⟨PB.far h.1 (by omega),HoldsP.far h.2 (by omega)⟩
theorem HoldsP.at {W:World}: ∀{l:List PB} {B i:Nat} {q:PB},HoldsP W B l->l[i]? =some q->q.lies W (B+i)
 |p::r,B,0,q,h,hi=>by
  obtain rfl:p=q:=by simpa using hi
  exact h.1
 |p::r,B,i+1,q,h,hi=>by
  have:=HoldsP.at h.2 (i:=i) (q:=q) (by simpa using hi)
  rw[Nat.add_right_comm] at this
  exact this
theorem HoldsP.set {W:World} {b o:Nat} {vs:List Value} {p q:PB} (hp:q.lies W b->p.lies (W.setCells b o vs) b): ∀{l:List PB} {B i:Nat},HoldsP W B l->b=B+i->l[i]? =some q->HoldsP (W.setCells b o vs) B (l.set i p)
 |q'::r,B,0,h,hb,hi=>by
  obtain rfl:b=B:=by omega
  obtain rfl:q'=q:=by simpa using hi
  exact⟨hp h.1,HoldsP.far h.2 (by omega)⟩
 |q'::r,B,i+1,h,hb,hi=>⟨PB.far h.1 (by omega),HoldsP.set hp h.2 (by omega) (by simpa using hi)⟩
theorem Lie.put {w W:World} {l:List PB} {i o:Nat} {vs:List Value} {p q:PB} (h:Lie w W l) (hi:l[i]? =some q) (hp:q.lies W (w.heap.size+i)->p.lies (W.setCells (w.heap.size+i) o vs) (w.heap.size+i)):
  Lie w (W.setCells (w.heap.size+i) o vs) (l.set i p):=
 ⟨Ly (W:=W) (Nat.le_add_right _ _) _ _ _ h.below,by rw[Mg,List.length_set];exact h.size,h.holds.set hp rfl hi⟩
theorem Di {W:World} {b o j:Nat} {vs:List Value} {v:Value} (hs: ∀j,j<vs.length->(W.cell? ⟨b,o+j,none⟩).isSome=true) (hv:vs[j]? =some v):(W.setCells b o vs).cell? ⟨b,o+j,none⟩=some v:=by
 obtain⟨hj,e⟩:=List.getElem?_eq_some_iff.1 hv
 rw[World.cell?_setCells_in b vs o W hs j hj,e]
theorem Al {W:World} {b o j:Nat} {vs:List Value} (hj:j<o∨o+vs.length<=j):(W.setCells b o vs).cell? ⟨b,j,none⟩=W.cell? ⟨b,j,none⟩:=
 World.cell?_setCells_out b vs o W ⟨b,j,none⟩ (fun _ _=>hj)
theorem Lies.setD {W:World} {B:Nat} {d:DD} {d':DD} (h:Lies W B d):Lies (W.setCells B 0 d'.cs) B d':=by
 obtain⟨f,h0,h1,h2,h3,h4,h5,h6,h7,h8,h9,h10,h11,h12,h13,h14,h15,h16,h17⟩:=h
 have hs: ∀j,j<18->(W.cell? ⟨B,0+j,none⟩).isSome=true:=by
  intro j hj
  match j,hj with
  |0,_=>exact h0▸rfl
  |1,_=>exact h1▸rfl
  |2,_=>exact h2▸rfl
  |3,_=>exact h3▸rfl
  |4,_=>exact h4▸rfl
  |5,_=>exact h5▸rfl
  |6,_=>exact h6▸rfl
  |7,_=>exact h7▸rfl
  |8,_=>exact h8▸rfl
  |9,_=>exact h9▸rfl
  |10,_=>exact h10▸rfl
  |11,_=>exact h11▸rfl
  |12,_=>exact h12▸rfl
  |13,_=>exact h13▸rfl
  |14,_=>exact h14▸rfl
  |15,_=>exact h15▸rfl
  |16,_=>exact h16▸rfl
  |17,_=>exact h17▸rfl
  |j+18,hj=>exact absurd hj (by omega)
 refine⟨fun j=>(World.frozen?_setCells _ _ _ _ _).trans (f j), ?_, ?_, ?_, ?_, ?_, ?_, ?_, ?_, ?_, ?_, ?_, ?_, ?_, ?_, ?_, ?_, ?_, ?_⟩
 ·exact Di (o:=0) (j:=0) hs rfl
 ·exact Di (o:=0) (j:=1) hs rfl
 ·exact Di (o:=0) (j:=2) hs rfl
 ·exact Di (o:=0) (j:=3) hs rfl
 ·exact Di (o:=0) (j:=4) hs rfl
 ·exact Di (o:=0) (j:=5) hs rfl
 ·exact Di (o:=0) (j:=6) hs rfl
 ·exact Di (o:=0) (j:=7) hs rfl
 ·exact Di (o:=0) (j:=8) hs rfl
 ·exact Di (o:=0) (j:=9) hs rfl
 ·exact Di (o:=0) (j:=10) hs rfl
 ·exact Di (o:=0) (j:=11) hs rfl
 ·exact Di (o:=0) (j:=12) hs rfl
 ·exact Di (o:=0) (j:=13) hs rfl
 ·exact Di (o:=0) (j:=14) hs rfl
 ·exact Di (o:=0) (j:=15) hs rfl
 ·exact Di (o:=0) (j:=16) hs rfl
 ·exact Di (o:=0) (j:=17) hs rfl
theorem Lies.setv {W:World} {B:Nat} {d:DD} {u:VV} (h:Lies W B d):Lies (W.setCells B 0 u.cs) B {d with v:=u}:=by
 obtain⟨f,h0,h1,h2,h3,h4,h5,h6,h7,h8,h9,h10,h11,h12,h13,h14,h15,h16,h17⟩:=h
 have hs: ∀j,j<5->(W.cell? ⟨B,0+j,none⟩).isSome=true:=by
  intro j hj
  match j,hj with
  |0,_=>exact h0▸rfl
  |1,_=>exact h1▸rfl
  |2,_=>exact h2▸rfl
  |3,_=>exact h3▸rfl
  |4,_=>exact h4▸rfl
  |j+5,hj=>exact absurd hj (by omega)
 refine⟨fun j=>(World.frozen?_setCells _ _ _ _ _).trans (f j), ?_, ?_, ?_, ?_, ?_, ?_, ?_, ?_, ?_, ?_, ?_, ?_, ?_, ?_, ?_, ?_, ?_, ?_⟩
 ·exact Di (o:=0) (j:=0) hs rfl
 ·exact Di (o:=0) (j:=1) hs rfl
 ·exact Di (o:=0) (j:=2) hs rfl
 ·exact Di (o:=0) (j:=3) hs rfl
 ·exact Di (o:=0) (j:=4) hs rfl
 ·exact(Al (by simp[VV.cs])).trans h5
 ·exact(Al (by simp[VV.cs])).trans h6
 ·exact(Al (by simp[VV.cs])).trans h7
 ·exact(Al (by simp[VV.cs])).trans h8
 ·exact(Al (by simp[VV.cs])).trans h9
 ·exact(Al (by simp[VV.cs])).trans h10
 ·exact(Al (by simp[VV.cs])).trans h11
 ·exact(Al (by simp[VV.cs])).trans h12
 ·exact(Al (by simp[VV.cs])).trans h13
 ·exact(Al (by simp[VV.cs])).trans h14
 ·exact(Al (by simp[VV.cs])).trans h15
 ·exact(Al (by simp[VV.cs])).trans h16
 ·exact(Al (by simp[VV.cs])).trans h17
theorem Lies.setg {W:World} {B:Nat} {d:DD} {u:VV} (h:Lies W B d):Lies (W.setCells B 5 u.cs) B {d with g:=u}:=by
 obtain⟨f,h0,h1,h2,h3,h4,h5,h6,h7,h8,h9,h10,h11,h12,h13,h14,h15,h16,h17⟩:=h
 have hs: ∀j,j<5->(W.cell? ⟨B,5+j,none⟩).isSome=true:=by
  intro j hj
  match j,hj with
  |0,_=>exact h5▸rfl
  |1,_=>exact h6▸rfl
  |2,_=>exact h7▸rfl
  |3,_=>exact h8▸rfl
  |4,_=>exact h9▸rfl
  |j+5,hj=>exact absurd hj (by omega)
 refine⟨fun j=>(World.frozen?_setCells _ _ _ _ _).trans (f j), ?_, ?_, ?_, ?_, ?_, ?_, ?_, ?_, ?_, ?_, ?_, ?_, ?_, ?_, ?_, ?_, ?_, ?_⟩
 ·exact(Al (by simp[VV.cs])).trans h0
 ·exact(Al (by simp[VV.cs])).trans h1
 ·exact(Al (by simp[VV.cs])).trans h2
 ·exact(Al (by simp[VV.cs])).trans h3
 ·exact(Al (by simp[VV.cs])).trans h4
 ·exact Di (o:=5) (j:=0) hs rfl
 ·exact Di (o:=5) (j:=1) hs rfl
 ·exact Di (o:=5) (j:=2) hs rfl
 ·exact Di (o:=5) (j:=3) hs rfl
 ·exact Di (o:=5) (j:=4) hs rfl
 ·exact(Al (by simp[VV.cs])).trans h10
 ·exact(Al (by simp[VV.cs])).trans h11
 ·exact(Al (by simp[VV.cs])).trans h12
 ·exact(Al (by simp[VV.cs])).trans h13
 ·exact(Al (by simp[VV.cs])).trans h14
 ·exact(Al (by simp[VV.cs])).trans h15
 ·exact(Al (by simp[VV.cs])).trans h16
 ·exact(Al (by simp[VV.cs])).trans h17
theorem Lies.sets {W:World} {B:Nat} {d:DD} {u:VV} (h:Lies W B d):Lies (W.setCells B 10 u.cs) B {d with s:=u}:=by
 obtain⟨f,h0,h1,h2,h3,h4,h5,h6,h7,h8,h9,h10,h11,h12,h13,h14,h15,h16,h17⟩:=h
 have hs: ∀j,j<5->(W.cell? ⟨B,10+j,none⟩).isSome=true:=by
  intro j hj
  match j,hj with
  |0,_=>exact h10▸rfl
  |1,_=>exact h11▸rfl
  |2,_=>exact h12▸rfl
  |3,_=>exact h13▸rfl
  |4,_=>exact h14▸rfl
  |j+5,hj=>exact absurd hj (by omega)
 refine⟨fun j=>(World.frozen?_setCells _ _ _ _ _).trans (f j), ?_, ?_, ?_, ?_, ?_, ?_, ?_, ?_, ?_, ?_, ?_, ?_, ?_, ?_, ?_, ?_, ?_, ?_⟩
 ·exact(Al (by simp[VV.cs])).trans h0
 ·exact(Al (by simp[VV.cs])).trans h1
 ·exact(Al (by simp[VV.cs])).trans h2
 ·exact(Al (by simp[VV.cs])).trans h3
 ·exact(Al (by simp[VV.cs])).trans h4
 ·exact(Al (by simp[VV.cs])).trans h5
 ·exact(Al (by simp[VV.cs])).trans h6
 ·exact(Al (by simp[VV.cs])).trans h7
 ·exact(Al (by simp[VV.cs])).trans h8
 ·exact(Al (by simp[VV.cs])).trans h9
 ·exact Di (o:=10) (j:=0) hs rfl
 ·exact Di (o:=10) (j:=1) hs rfl
 ·exact Di (o:=10) (j:=2) hs rfl
 ·exact Di (o:=10) (j:=3) hs rfl
 ·exact Di (o:=10) (j:=4) hs rfl
 ·exact(Al (by simp[VV.cs])).trans h15
 ·exact(Al (by simp[VV.cs])).trans h16
 ·exact(Al (by simp[VV.cs])).trans h17
theorem Lies.setw {W:World} {B:Nat} {d:DD} {n:Int} (h:Lies W B d):Lies (W.setCells B 15 [.int .i64 n]) B {d with w:=n}:=by
 obtain⟨f,h0,h1,h2,h3,h4,h5,h6,h7,h8,h9,h10,h11,h12,h13,h14,h15,h16,h17⟩:=h
 have hs: ∀j,j<1->(W.cell? ⟨B,15+j,none⟩).isSome=true:=by
  intro j hj
  match j,hj with
  |0,_=>exact h15▸rfl
  |j+1,hj=>exact absurd hj (by omega)
 refine⟨fun j=>(World.frozen?_setCells _ _ _ _ _).trans (f j), ?_, ?_, ?_, ?_, ?_, ?_, ?_, ?_, ?_, ?_, ?_, ?_, ?_, ?_, ?_, ?_, ?_, ?_⟩
 ·exact(Al (by simp[VV.cs])).trans h0
 ·exact(Al (by simp[VV.cs])).trans h1
 ·exact(Al (by simp[VV.cs])).trans h2
 ·exact(Al (by simp[VV.cs])).trans h3
 ·exact(Al (by simp[VV.cs])).trans h4
 ·exact(Al (by simp[VV.cs])).trans h5
 ·exact(Al (by simp[VV.cs])).trans h6
 ·exact(Al (by simp[VV.cs])).trans h7
 ·exact(Al (by simp[VV.cs])).trans h8
 ·exact(Al (by simp[VV.cs])).trans h9
 ·exact(Al (by simp[VV.cs])).trans h10
 ·exact(Al (by simp[VV.cs])).trans h11
 ·exact(Al (by simp[VV.cs])).trans h12
 ·exact(Al (by simp[VV.cs])).trans h13
 ·exact(Al (by simp[VV.cs])).trans h14
 ·exact Di (o:=15) (j:=0) hs rfl
 ·exact(Al (by simp[VV.cs])).trans h16
 ·exact(Al (by simp[VV.cs])).trans h17
theorem Lies.sete {W:World} {B:Nat} {d:DD} {n:Int} (h:Lies W B d):Lies (W.setCells B 16 [.int .i64 n]) B {d with e:=n}:=by
 obtain⟨f,h0,h1,h2,h3,h4,h5,h6,h7,h8,h9,h10,h11,h12,h13,h14,h15,h16,h17⟩:=h
 have hs: ∀j,j<1->(W.cell? ⟨B,16+j,none⟩).isSome=true:=by
  intro j hj
  match j,hj with
  |0,_=>exact h16▸rfl
  |j+1,hj=>exact absurd hj (by omega)
 refine⟨fun j=>(World.frozen?_setCells _ _ _ _ _).trans (f j), ?_, ?_, ?_, ?_, ?_, ?_, ?_, ?_, ?_, ?_, ?_, ?_, ?_, ?_, ?_, ?_, ?_, ?_⟩
 ·exact(Al (by simp[VV.cs])).trans h0
 ·exact(Al (by simp[VV.cs])).trans h1
 ·exact(Al (by simp[VV.cs])).trans h2
 ·exact(Al (by simp[VV.cs])).trans h3
 ·exact(Al (by simp[VV.cs])).trans h4
 ·exact(Al (by simp[VV.cs])).trans h5
 ·exact(Al (by simp[VV.cs])).trans h6
 ·exact(Al (by simp[VV.cs])).trans h7
 ·exact(Al (by simp[VV.cs])).trans h8
 ·exact(Al (by simp[VV.cs])).trans h9
 ·exact(Al (by simp[VV.cs])).trans h10
 ·exact(Al (by simp[VV.cs])).trans h11
 ·exact(Al (by simp[VV.cs])).trans h12
 ·exact(Al (by simp[VV.cs])).trans h13
 ·exact(Al (by simp[VV.cs])).trans h14
 ·exact(Al (by simp[VV.cs])).trans h15
 ·exact Di (o:=16) (j:=0) hs rfl
 ·exact(Al (by simp[VV.cs])).trans h17
theorem Lies.setc {W:World} {B:Nat} {d:DD} {n:Int} (h:Lies W B d):Lies (W.setCells B 17 [.int .i64 n]) B {d with c:=n}:=by
 obtain⟨f,h0,h1,h2,h3,h4,h5,h6,h7,h8,h9,h10,h11,h12,h13,h14,h15,h16,h17⟩:=h
 have hs: ∀j,j<1->(W.cell? ⟨B,17+j,none⟩).isSome=true:=by
  intro j hj
  match j,hj with
  |0,_=>exact h17▸rfl
  |j+1,hj=>exact absurd hj (by omega)
 refine⟨fun j=>(World.frozen?_setCells _ _ _ _ _).trans (f j), ?_, ?_, ?_, ?_, ?_, ?_, ?_, ?_, ?_, ?_, ?_, ?_, ?_, ?_, ?_, ?_, ?_, ?_⟩
 ·exact(Al (by simp[VV.cs])).trans h0
 ·exact(Al (by simp[VV.cs])).trans h1
 ·exact(Al (by simp[VV.cs])).trans h2
 ·exact(Al (by simp[VV.cs])).trans h3
 ·exact(Al (by simp[VV.cs])).trans h4
 ·exact(Al (by simp[VV.cs])).trans h5
 ·exact(Al (by simp[VV.cs])).trans h6
 ·exact(Al (by simp[VV.cs])).trans h7
 ·exact(Al (by simp[VV.cs])).trans h8
 ·exact(Al (by simp[VV.cs])).trans h9
 ·exact(Al (by simp[VV.cs])).trans h10
 ·exact(Al (by simp[VV.cs])).trans h11
 ·exact(Al (by simp[VV.cs])).trans h12
 ·exact(Al (by simp[VV.cs])).trans h13
 ·exact(Al (by simp[VV.cs])).trans h14
 ·exact(Al (by simp[VV.cs])).trans h15
 ·exact(Al (by simp[VV.cs])).trans h16
 ·exact Di (o:=17) (j:=0) hs rfl
theorem Lies.setstr {W:World} {B:Nat} {d:DD} {n:ByteArray} (h:Lies W B d):Lies (W.setCells B 3 [.string n]) B {d with v:={d.v with s:=n}}:=by
 obtain⟨f,h0,h1,h2,h3,h4,h5,h6,h7,h8,h9,h10,h11,h12,h13,h14,h15,h16,h17⟩:=h
 have hs: ∀j,j<1->(W.cell? ⟨B,3+j,none⟩).isSome=true:=by
  intro j hj
  match j,hj with
  |0,_=>exact h3▸rfl
  |j+1,hj=>exact absurd hj (by omega)
 refine⟨fun j=>(World.frozen?_setCells _ _ _ _ _).trans (f j), ?_, ?_, ?_, ?_, ?_, ?_, ?_, ?_, ?_, ?_, ?_, ?_, ?_, ?_, ?_, ?_, ?_, ?_⟩
 ·exact(Al (by simp[VV.cs])).trans h0
 ·exact(Al (by simp[VV.cs])).trans h1
 ·exact(Al (by simp[VV.cs])).trans h2
 ·exact Di (o:=3) (j:=0) hs rfl
 ·exact(Al (by simp[VV.cs])).trans h4
 ·exact(Al (by simp[VV.cs])).trans h5
 ·exact(Al (by simp[VV.cs])).trans h6
 ·exact(Al (by simp[VV.cs])).trans h7
 ·exact(Al (by simp[VV.cs])).trans h8
 ·exact(Al (by simp[VV.cs])).trans h9
 ·exact(Al (by simp[VV.cs])).trans h10
 ·exact(Al (by simp[VV.cs])).trans h11
 ·exact(Al (by simp[VV.cs])).trans h12
 ·exact(Al (by simp[VV.cs])).trans h13
 ·exact(Al (by simp[VV.cs])).trans h14
 ·exact(Al (by simp[VV.cs])).trans h15
 ·exact(Al (by simp[VV.cs])).trans h16
 ·exact(Al (by simp[VV.cs])).trans h17
end
section
open Go Go.Proofs Go.RowKit FM Tryz
theorem Lies.there {W:World} {B:Nat} {d:DD} (h:Lies W B d):W.there B 0 18:=by
 obtain⟨f,h0,h1,h2,h3,h4,h5,h6,h7,h8,h9,h10,h11,h12,h13,h14,h15,h16,h17⟩:=h
 intro j hj
 match j,hj with
 |0,_=>exact⟨h0▸rfl,f _⟩
 |1,_=>exact⟨h1▸rfl,f _⟩
 |2,_=>exact⟨h2▸rfl,f _⟩
 |3,_=>exact⟨h3▸rfl,f _⟩
 |4,_=>exact⟨h4▸rfl,f _⟩
 |5,_=>exact⟨h5▸rfl,f _⟩
 |6,_=>exact⟨h6▸rfl,f _⟩
 |7,_=>exact⟨h7▸rfl,f _⟩
 |8,_=>exact⟨h8▸rfl,f _⟩
 |9,_=>exact⟨h9▸rfl,f _⟩
 |10,_=>exact⟨h10▸rfl,f _⟩
 |11,_=>exact⟨h11▸rfl,f _⟩
 |12,_=>exact⟨h12▸rfl,f _⟩
 |13,_=>exact⟨h13▸rfl,f _⟩
 |14,_=>exact⟨h14▸rfl,f _⟩
 |15,_=>exact⟨h15▸rfl,f _⟩
 |16,_=>exact⟨h16▸rfl,f _⟩
 |17,_=>exact⟨h17▸rfl,f _⟩
 |j+18,hj=>exact absurd hj (by omega)
theorem Km {ops:Array Oper} {rest:List Oper} {o:Oper} {a:Act} {w w0:World} {Q:Exit->Act->World->Prop} {x y:Operand} {l:List PB} (i:Nat) {d:DD} {u:DD} (hw:Region.wanted o (yielded ops a.tmps)=true) (ho:o.op= .store 39 x y) (hL:Lie w0 w l) (hi:l[i]? =some (.D d))
  (hx:a.eval x= .pointer (some ⟨w0.heap.size+i,0,none⟩)) (hy:a.eval y=u.agg) (h: ∀X,Lie w0 X (l.set i (.D u))->wpList prog ops Q rest (a.put o.dst undef) X):wpList prog ops Q (o::rest) a w:=by
 refine BigFrame.wpList_want hw fun K hK=> ?_
 have hc:=hL.holds.at hi
 exact wp_store_mid 39 x y ho _ 0 u.cs.toArray hx hy (Lies.there hc) Vf (by simp[DD.cs,VV.cs,Value.oneCell']) (hK _ _ (h _ (hL.put hi fun hq=>Lies.setD hq)))
theorem Rx {W:World} {b j:Nat} {v c:Value} {m:Mode} (hc:W.cell? ⟨b,j,none⟩=some c) (hf:W.frozen? ⟨b,j,none⟩=false):stored prog W ⟨b,j,none⟩ v m= .ok () (W.setCells b j [v]):=by
 unfold stored
 rw[hc]
 simp[hf,World.setCells]
theorem store25w {ops:Array Oper} {rest:List Oper} {o:Oper} {a:Act} {w w0:World} {Q:Exit->Act->World->Prop} {x y:Operand} {l:List PB} (i:Nat) {d:DD} {n:Int} (hw:Region.wanted o (yielded ops a.tmps)=true) (ho:o.op= .store 37 x y) (hL:Lie w0 w l) (hi:l[i]? =some (.D d))
  (hx:a.eval x= .pointer (some ⟨w0.heap.size+i,15,none⟩)) (hy:a.eval y= .int .i64 n) (h: ∀X,Lie w0 X (l.set i (.D {d with w:=n}))->wpList prog ops Q rest (a.put o.dst undef) X):wpList prog ops Q (o::rest) a w:=by
 refine BigFrame.wpList_want hw fun K hK=> ?_
 have hc:=hL.holds.at hi
 have hP:=hK _ _ (h _ (hL.put hi fun hq=>Lies.setw (n:=n) hq))
 obtain⟨f,h0,h1,h2,h3,h4,h5,h6,h7,h8,h9,h10,h11,h12,h13,h14,h15,h16,h17⟩:=hc
 have hs: ∀m,stored prog w ⟨w0.heap.size+i,15,none⟩ (.int .i64 n) m= .ok () (w.setCells (w0.heap.size+i) 15 [.int .i64 n]):=fun m=>Rx h15 (f _)
 unfold Oper.wp execOp
 simp only[ho,hx,hy]
 simp only[go_sem] at hs
 simp[go_sem,Tryz.sizeOf37]
 simp[hs]
 exact hP
theorem Yy {ops:Array Oper} {rest:List Oper} {o:Oper} {a:Act} {w w0:World} {Q:Exit->Act->World->Prop} {x y:Operand} {l:List PB} (i:Nat) {d:DD} {n:Int} (hw:Region.wanted o (yielded ops a.tmps)=true) (ho:o.op= .store 37 x y) (hL:Lie w0 w l) (hi:l[i]? =some (.D d))
  (hx:a.eval x= .pointer (some ⟨w0.heap.size+i,16,none⟩)) (hy:a.eval y= .int .i64 n) (h: ∀X,Lie w0 X (l.set i (.D {d with e:=n}))->wpList prog ops Q rest (a.put o.dst undef) X):wpList prog ops Q (o::rest) a w:=by
 refine BigFrame.wpList_want hw fun K hK=> ?_
 have hc:=hL.holds.at hi
 have hP:=hK _ _ (h _ (hL.put hi fun hq=>Lies.sete (n:=n) hq))
 obtain⟨f,h0,h1,h2,h3,h4,h5,h6,h7,h8,h9,h10,h11,h12,h13,h14,h15,h16,h17⟩:=hc
 have hs: ∀m,stored prog w ⟨w0.heap.size+i,16,none⟩ (.int .i64 n) m= .ok () (w.setCells (w0.heap.size+i) 16 [.int .i64 n]):=fun m=>Rx h16 (f _)
 unfold Oper.wp execOp
 simp only[ho,hx,hy]
 simp only[go_sem] at hs
 simp[go_sem,Tryz.sizeOf37]
 simp[hs]
 exact hP
theorem Yz {ops:Array Oper} {rest:List Oper} {o:Oper} {a:Act} {w w0:World} {Q:Exit->Act->World->Prop} {x y:Operand} {l:List PB} (i:Nat) {d:DD} {n:Int} (hw:Region.wanted o (yielded ops a.tmps)=true) (ho:o.op= .store 37 x y) (hL:Lie w0 w l) (hi:l[i]? =some (.D d))
  (hx:a.eval x= .pointer (some ⟨w0.heap.size+i,17,none⟩)) (hy:a.eval y= .int .i64 n) (h: ∀X,Lie w0 X (l.set i (.D {d with c:=n}))->wpList prog ops Q rest (a.put o.dst undef) X):wpList prog ops Q (o::rest) a w:=by
 refine BigFrame.wpList_want hw fun K hK=> ?_
 have hc:=hL.holds.at hi
 have hP:=hK _ _ (h _ (hL.put hi fun hq=>Lies.setc (n:=n) hq))
 obtain⟨f,h0,h1,h2,h3,h4,h5,h6,h7,h8,h9,h10,h11,h12,h13,h14,h15,h16,h17⟩:=hc
 have hs: ∀m,stored prog w ⟨w0.heap.size+i,17,none⟩ (.int .i64 n) m= .ok () (w.setCells (w0.heap.size+i) 17 [.int .i64 n]):=fun m=>Rx h17 (f _)
 unfold Oper.wp execOp
 simp only[ho,hx,hy]
 simp only[go_sem] at hs
 simp[go_sem,Tryz.sizeOf37]
 simp[hs]
 exact hP
theorem store9 {ops:Array Oper} {rest:List Oper} {o:Oper} {a:Act} {w w0:World} {Q:Exit->Act->World->Prop} {x y:Operand} {l:List PB} (i:Nat) {d:DD} {n:ByteArray} (hw:Region.wanted o (yielded ops a.tmps)=true) (ho:o.op= .store 9 x y) (hL:Lie w0 w l) (hi:l[i]? =some (.D d))
  (hx:a.eval x= .pointer (some ⟨w0.heap.size+i,3,none⟩)) (hy:a.eval y= .string n) (h: ∀X,Lie w0 X (l.set i (.D {d with v:={d.v with s:=n}}))->wpList prog ops Q rest (a.put o.dst undef) X):wpList prog ops Q (o::rest) a w:=by
 refine BigFrame.wpList_want hw fun K hK=> ?_
 have hc:=hL.holds.at hi
 have hP:=hK _ _ (h _ (hL.put hi fun hq=>Lies.setstr (n:=n) hq))
 obtain⟨f,h0,h1,h2,h3,h4,h5,h6,h7,h8,h9,h10,h11,h12,h13,h14,h15,h16,h17⟩:=hc
 have hs: ∀m,stored prog w ⟨w0.heap.size+i,3,none⟩ (.string n) m= .ok () (w.setCells (w0.heap.size+i) 3 [.string n]):=fun m=>Rx h3 (f _)
 unfold Oper.wp execOp
 simp only[ho,hx,hy]
 simp only[go_sem] at hs
 simp[go_sem,Tryz.sizeOf9]
 simp[hs]
 exact hP
theorem Zb3 {fn:Func} {R:Ending->World->Prop} {a:Act} {w:World} {b r:Nat} {d:DD} (hr:fn.results= #[.cell r 39]) (hdf:a.defers= [])
  (hx:a.tmps.getD r undef= .pointer (some ⟨b,0,none⟩)) (hc:Lies w b d) (h:R (.returned (d.agg)) w):bodyPost prog fn R .ret a w:=by
 obtain⟨t,hu,hd⟩:=Yu
 have hl:=run_loadVar_mid (P:=prog) w b 0 39 _ t hc.range hu hd Vf
 refine⟨hdf,_, ?_,h⟩
 simp only[Array.getD_eq_getD_getElem?] at hx
 unfold results
 simp[hr,hx,hl,asAddr]
 try rfl
theorem Nz {fn:Func} {R:Ending->World->Prop} {a:Act} {w:World} {b r:Nat} {d:DD} {t t2:Nat} {v v2:Value} (hr:fn.results= #[.cell r 39, .tmp t, .tmp t2]) (hdf:a.defers= [])
  (hx:a.tmps.getD r undef= .pointer (some ⟨b,0,none⟩)) (hv:a.tmps.getD t undef=v) (hv2:a.tmps.getD t2 undef=v2) (hc:Lies w b d) (h:R (.returned (.tuple #[d.agg,v,v2])) w):bodyPost prog fn R .ret a w:=by
 obtain⟨t,hu,hd⟩:=Yu
 have hl:=run_loadVar_mid (P:=prog) w b 0 39 _ t hc.range hu hd Vf
 refine⟨hdf,_, ?_,h⟩
 simp only[Array.getD_eq_getD_getElem?] at hx hv hv2
 unfold results
 simp[hr,hx,hl,asAddr,hv,hv2]
 try rfl
def noV (d:DD):Bool:=Dg d==1 && !(d.e !=0) && !(d.c !=0)
def stV (d:DD):Bool:=noV d||wholeV d
def Ez (d:DD):Int:=if Jj d==0 then 5 else 0
theorem Zq (d:DD) (hd:FD d) (w:World) (hT:Lib.Utf8Tabs 1 2 w):Calls prog 54 #[d.agg] w fun e w'=>e= .returned (.int .i64 (Jj d))/\Below w.heap.size w w':=by
 have HA:=Ab (fun w hT=>Zet d hd w hT)
 have HB:=Ab (Dd d hd)
 have HT:=Ab hT
 clear hT
 clear hd
 have LL:=Ab (Lie.new1 w (.D d))
 unfold Jj
 generalize Ka d=so at *
 generalize Dg d=sh at *
 have hq0:=Ja d
 rw[hq0]
 clear hq0
 go_enter func54,ntmps54
 go_wp2_with (((with_reducible apply De);(case ho=>rfl);(case hx=>rfl);(case hw=>rfl);(case hc=>first|exact(Aa LL).one);simp only[nn]))
 refine(Aa HA _ (Ar (Aa HT) (Aa LL).below)).mono ?_
 rintro _ w1 ⟨rfl,hb⟩
 replace LL:=Ab ((Aa LL).on hb)
 clear hb
 cases so
 ·go_wp2_with fail
  go_ret
  exact⟨rfl,(Aa LL).below⟩
 ·go_wp2_with (((with_reducible apply De);(case ho=>rfl);(case hx=>rfl);(case hw=>rfl);(case hc=>first|exact(Aa LL).one);simp only[nn]))
  refine(Aa HB _).mono ?_
  rintro _ w2 ⟨rfl,hb⟩
  replace LL:=Ab ((Aa LL).on hb)
  clear hb
  go_wp2_with fail
  go_ret
  exact⟨rfl,(Aa LL).below⟩
theorem Uv (d:DD) (hd:FD d) (w:World) (hT:Lib.Utf8Tabs 1 2 w):Calls prog 31 #[d.agg] w fun e w'=>e= .returned (.int .i64 (Ez d))/\Below w.heap.size w w':=by
 have HK:=Ab (fun w hT=>Zq d hd w hT)
 have HT:=Ab hT
 clear hT
 clear hd
 have LL:=Ab (Lie.new1 w (.D d))
 unfold Ez
 generalize Jj d=k at *
 have hq0:=Ja d
 rw[hq0]
 clear hq0
 by_cases hk:k=0
 ·subst hk
  go_enter func31,ntmps31
  go_wp2_with (((with_reducible apply De);(case ho=>rfl);(case hx=>rfl);(case hw=>rfl);(case hc=>first|exact(Aa LL).one);simp only[nn]))
  refine(Aa HK _ (Ar (Aa HT) (Aa LL).below)).mono ?_
  rintro _ w3 ⟨rfl,hb⟩
  replace LL:=Ab ((Aa LL).on hb)
  clear hb
  go_wp2_with fail
  go_ret
  exact⟨rfl,(Aa LL).below⟩
 ·have hk2:(k==0)=false:=by simp[hk]
  rw[hk2]
  go_enter func31,ntmps31
  go_wp2_with (((with_reducible apply De);(case ho=>rfl);(case hx=>rfl);(case hw=>rfl);(case hc=>first|exact(Aa LL).one);simp only[nn]))
  refine(Aa HK _ (Ar (Aa HT) (Aa LL).below)).mono ?_
  rintro _ w4 ⟨rfl,hb⟩
  replace LL:=Ab ((Aa LL).on hb)
  clear hb
  go_wp2_with fail
  go_ret
  exact⟨rfl,(Aa LL).below⟩
theorem Zeh (d:DD) (hd:FD d) (w:World) (hT:Lib.Utf8Tabs 1 2 w):Calls prog 110 #[d.agg] w fun e w'=>e= .returned (.bool (wholeV d))/\Below w.heap.size w w':=by
 have HK:=Ab (fun w hT=>Zq d hd w hT)
 have HV:=Ab (Gj d.v hd.1)
 have HG:=Ab (Gj d.g hd.2.1)
 have HS:=Ab (Gj d.s hd.2.2)
 have HT:=Ab hT
 clear hT
 clear hd
 have LL:=Ab (Lie.new1 w (.D d))
 unfold wholeV
 generalize Jj d=k at *
 generalize thV d.v=tv at *
 generalize thV d.g=tg at *
 generalize thV d.s=ts at *
 generalize hqa:(d.w !=0)=qa at *
 generalize hqe:(d.e !=0)=qe at *
 generalize hqc:(d.c !=0)=qc at *
 have hq0:=Ja d
 rw[hq0]
 clear hq0
 by_cases h3:k=3
 ·subst h3
  cases qe
  ·go_enter func110,ntmps110
   go_wp2_with (first|((with_reducible apply De);(case ho=>rfl);(case hx=>rfl);(case hw=>rfl);(case hc=>first|exact(Aa LL).one);simp only[nn])|((with_reducible apply En);(case ho=>rfl);(case hx=>rfl);(case hw=>rfl);(case hc=>first|exact(Aa LL).one);simp only[nn])|(go_at_call 106;refine(Dy _ _).mono ?_;rintro _ _ ⟨rfl,rfl⟩))
   refine(Aa HK _ (Ar (Aa HT) (Aa LL).below)).mono ?_
   rintro _ w8 ⟨rfl,hb⟩
   replace LL:=Ab ((Aa LL).on hb)
   clear hb
   go_wp2_with fail
   go_ret
   exact⟨rfl,(Aa LL).below⟩
  ·cases qc
   ·go_enter func110,ntmps110
    go_wp2_with (first|((with_reducible apply De);(case ho=>rfl);(case hx=>rfl);(case hw=>rfl);(case hc=>first|exact(Aa LL).one);simp only[nn])|((with_reducible apply En);(case ho=>rfl);(case hx=>rfl);(case hw=>rfl);(case hc=>first|exact(Aa LL).one);simp only[nn])|((with_reducible apply Ev);(case ho=>rfl);(case hx=>rfl);(case hw=>rfl);(case hc=>first|exact(Aa LL).one);simp only[nn])|(go_at_call 106;refine(Dy _ _).mono ?_;rintro _ _ ⟨rfl,rfl⟩))
    refine(Aa HK _ (Ar (Aa HT) (Aa LL).below)).mono ?_
    rintro _ w9 ⟨rfl,hb⟩
    replace LL:=Ab ((Aa LL).on hb)
    clear hb
    go_wp2_with fail
    go_ret
    exact⟨rfl,(Aa LL).below⟩
   ·go_enter func110,ntmps110
    go_wp2_with (first|((with_reducible apply De);(case ho=>rfl);(case hx=>rfl);(case hw=>rfl);(case hc=>first|exact(Aa LL).one);simp only[nn])|((with_reducible apply En);(case ho=>rfl);(case hx=>rfl);(case hw=>rfl);(case hc=>first|exact(Aa LL).one);simp only[nn])|((with_reducible apply Ev);(case ho=>rfl);(case hx=>rfl);(case hw=>rfl);(case hc=>first|exact(Aa LL).one);simp only[nn])|(go_at_call 106;refine(Dy _ _).mono ?_;rintro _ _ ⟨rfl,rfl⟩))
    refine(Aa HK _ (Ar (Aa HT) (Aa LL).below)).mono ?_
    rintro _ w10 ⟨rfl,hb⟩
    replace LL:=Ab ((Aa LL).on hb)
    clear hb
    go_wp2_with (((with_reducible apply Ys);(case ho=>rfl);(case hx=>rfl);(case hw=>rfl);(case hc=>first|exact(Aa LL).one);simp only[nn]))
    refine(Aa HG _).mono ?_
    rintro _ w11 ⟨rfl,hb⟩
    replace LL:=Ab ((Aa LL).on hb)
    clear hb
    cases tg
    ·go_wp2_with fail
     go_ret
     exact⟨rfl,(Aa LL).below⟩
    ·go_wp2_with (((with_reducible apply Yr);(case ho=>rfl);(case hx=>rfl);(case hw=>rfl);(case hc=>first|exact(Aa LL).one);simp only[nn]))
     refine(Aa HS _).mono ?_
     rintro _ w12 ⟨rfl,hb⟩
     replace LL:=Ab ((Aa LL).on hb)
     clear hb
     go_wp2_with fail
     go_ret
     exact⟨rfl,(Aa LL).below⟩
 ·have e3:(k==3)=false:=by simp[h3]
  rw[e3]
  by_cases h2:k=2
  ·subst h2
   cases qe
   ·go_enter func110,ntmps110
    go_wp2_with (first|((with_reducible apply De);(case ho=>rfl);(case hx=>rfl);(case hw=>rfl);(case hc=>first|exact(Aa LL).one);simp only[nn])|((with_reducible apply En);(case ho=>rfl);(case hx=>rfl);(case hw=>rfl);(case hc=>first|exact(Aa LL).one);simp only[nn])|(go_at_call 106;refine(Dy _ _).mono ?_;rintro _ _ ⟨rfl,rfl⟩))
    refine(Aa HK _ (Ar (Aa HT) (Aa LL).below)).mono ?_
    rintro _ w13 ⟨rfl,hb⟩
    replace LL:=Ab ((Aa LL).on hb)
    clear hb
    go_wp2_with fail
    go_ret
    exact⟨rfl,(Aa LL).below⟩
   ·cases qc
    ·go_enter func110,ntmps110
     go_wp2_with (first|((with_reducible apply De);(case ho=>rfl);(case hx=>rfl);(case hw=>rfl);(case hc=>first|exact(Aa LL).one);simp only[nn])|((with_reducible apply En);(case ho=>rfl);(case hx=>rfl);(case hw=>rfl);(case hc=>first|exact(Aa LL).one);simp only[nn])|((with_reducible apply Ev);(case ho=>rfl);(case hx=>rfl);(case hw=>rfl);(case hc=>first|exact(Aa LL).one);simp only[nn])|(go_at_call 106;refine(Dy _ _).mono ?_;rintro _ _ ⟨rfl,rfl⟩))
     refine(Aa HK _ (Ar (Aa HT) (Aa LL).below)).mono ?_
     rintro _ w14 ⟨rfl,hb⟩
     replace LL:=Ab ((Aa LL).on hb)
     clear hb
     go_wp2_with fail
     go_ret
     exact⟨rfl,(Aa LL).below⟩
    ·go_enter func110,ntmps110
     go_wp2_with (first|((with_reducible apply De);(case ho=>rfl);(case hx=>rfl);(case hw=>rfl);(case hc=>first|exact(Aa LL).one);simp only[nn])|((with_reducible apply En);(case ho=>rfl);(case hx=>rfl);(case hw=>rfl);(case hc=>first|exact(Aa LL).one);simp only[nn])|((with_reducible apply Ev);(case ho=>rfl);(case hx=>rfl);(case hw=>rfl);(case hc=>first|exact(Aa LL).one);simp only[nn])|(go_at_call 106;refine(Dy _ _).mono ?_;rintro _ _ ⟨rfl,rfl⟩))
     refine(Aa HK _ (Ar (Aa HT) (Aa LL).below)).mono ?_
     rintro _ w15 ⟨rfl,hb⟩
     replace LL:=Ab ((Aa LL).on hb)
     clear hb
     go_wp2_with (((with_reducible apply Yq);(case ho=>rfl);(case hx=>rfl);(case hw=>rfl);(case hc=>first|exact(Aa LL).one);simp only[nn]))
     refine(Aa HV _).mono ?_
     rintro _ w16 ⟨rfl,hb⟩
     replace LL:=Ab ((Aa LL).on hb)
     clear hb
     cases tv
     ·go_wp2_with fail
      go_ret
      exact⟨rfl,(Aa LL).below⟩
     ·go_wp2_with (first|((with_reducible apply Ks);(case ho=>rfl);(case hx=>rfl);(case hw=>rfl);(case hc=>first|exact(Aa LL).one);simp only[nn])|(go_at_call 106;refine(Dy _ _).mono ?_;rintro _ _ ⟨rfl,rfl⟩))
      go_ret
      exact⟨rfl,(Aa LL).below⟩
  ·have e2:(k==2)=false:=by simp[h2]
   rw[e2]
   cases qe
   ·go_enter func110,ntmps110
    go_wp2_with (first|((with_reducible apply De);(case ho=>rfl);(case hx=>rfl);(case hw=>rfl);(case hc=>first|exact(Aa LL).one);simp only[nn])|((with_reducible apply En);(case ho=>rfl);(case hx=>rfl);(case hw=>rfl);(case hc=>first|exact(Aa LL).one);simp only[nn])|(go_at_call 106;refine(Dy _ _).mono ?_;rintro _ _ ⟨rfl,rfl⟩))
    refine(Aa HK _ (Ar (Aa HT) (Aa LL).below)).mono ?_
    rintro _ w17 ⟨rfl,hb⟩
    replace LL:=Ab ((Aa LL).on hb)
    clear hb
    go_wp2_with fail
    go_ret
    exact⟨rfl,(Aa LL).below⟩
   ·cases qc
    ·go_enter func110,ntmps110
     go_wp2_with (first|((with_reducible apply De);(case ho=>rfl);(case hx=>rfl);(case hw=>rfl);(case hc=>first|exact(Aa LL).one);simp only[nn])|((with_reducible apply En);(case ho=>rfl);(case hx=>rfl);(case hw=>rfl);(case hc=>first|exact(Aa LL).one);simp only[nn])|((with_reducible apply Ev);(case ho=>rfl);(case hx=>rfl);(case hw=>rfl);(case hc=>first|exact(Aa LL).one);simp only[nn])|(go_at_call 106;refine(Dy _ _).mono ?_;rintro _ _ ⟨rfl,rfl⟩))
     refine(Aa HK _ (Ar (Aa HT) (Aa LL).below)).mono ?_
     rintro _ w18 ⟨rfl,hb⟩
     replace LL:=Ab ((Aa LL).on hb)
     clear hb
     go_wp2_with fail
     go_ret
     exact⟨rfl,(Aa LL).below⟩
    ·go_enter func110,ntmps110
     go_wp2_with (first|((with_reducible apply De);(case ho=>rfl);(case hx=>rfl);(case hw=>rfl);(case hc=>first|exact(Aa LL).one);simp only[nn])|((with_reducible apply En);(case ho=>rfl);(case hx=>rfl);(case hw=>rfl);(case hc=>first|exact(Aa LL).one);simp only[nn])|((with_reducible apply Ev);(case ho=>rfl);(case hx=>rfl);(case hw=>rfl);(case hc=>first|exact(Aa LL).one);simp only[nn])|(go_at_call 106;refine(Dy _ _).mono ?_;rintro _ _ ⟨rfl,rfl⟩))
     refine(Aa HK _ (Ar (Aa HT) (Aa LL).below)).mono ?_
     rintro _ w19 ⟨rfl,hb⟩
     replace LL:=Ab ((Aa LL).on hb)
     clear hb
     go_wp2_with fail
     go_ret
     exact⟨rfl,(Aa LL).below⟩
theorem Vy (d:DD) (hd:FD d) (w:World):Calls prog 95 #[d.agg] w fun e w'=>e= .returned (.bool (noV d))/\Below w.heap.size w w':=by
 have HB:=Ab (Dd d hd)
 clear hd
 have LL:=Ab (Lie.new1 w (.D d))
 unfold noV
 generalize Dg d=k at *
 generalize hqe:(d.e !=0)=qe at *
 generalize hqc:(d.c !=0)=qc at *
 have hq0:=Ja d
 rw[hq0]
 clear hq0
 by_cases hk:k=1
 ·subst hk
  cases qe
  ·go_enter func95,ntmps95
   go_wp2_with (((with_reducible apply De);(case ho=>rfl);(case hx=>rfl);(case hw=>rfl);(case hc=>first|exact(Aa LL).one);simp only[nn]))
   refine(Aa HB _).mono ?_
   rintro _ w20 ⟨rfl,hb⟩
   replace LL:=Ab ((Aa LL).on hb)
   clear hb
   go_wp2_with (first|((with_reducible apply En);(case ho=>rfl);(case hx=>rfl);(case hw=>rfl);(case hc=>first|exact(Aa LL).one);simp only[nn])|((with_reducible apply Ev);(case ho=>rfl);(case hx=>rfl);(case hw=>rfl);(case hc=>first|exact(Aa LL).one);simp only[nn])|(go_at_call 106;refine(Dy _ _).mono ?_;rintro _ _ ⟨rfl,rfl⟩))
   go_ret
   exact⟨rfl,(Aa LL).below⟩
  ·go_enter func95,ntmps95
   go_wp2_with (((with_reducible apply De);(case ho=>rfl);(case hx=>rfl);(case hw=>rfl);(case hc=>first|exact(Aa LL).one);simp only[nn]))
   refine(Aa HB _).mono ?_
   rintro _ w20 ⟨rfl,hb⟩
   replace LL:=Ab ((Aa LL).on hb)
   clear hb
   go_wp2_with (first|((with_reducible apply En);(case ho=>rfl);(case hx=>rfl);(case hw=>rfl);(case hc=>first|exact(Aa LL).one);simp only[nn])|(go_at_call 106;refine(Dy _ _).mono ?_;rintro _ _ ⟨rfl,rfl⟩))
   go_ret
   exact⟨rfl,(Aa LL).below⟩
 ·have hk2:(k==1)=false:=by simp[hk]
  rw[hk2]
  go_enter func95,ntmps95
  go_wp2_with (((with_reducible apply De);(case ho=>rfl);(case hx=>rfl);(case hw=>rfl);(case hc=>first|exact(Aa LL).one);simp only[nn]))
  refine(Aa HB _).mono ?_
  rintro _ w20 ⟨rfl,hb⟩
  replace LL:=Ab ((Aa LL).on hb)
  clear hb
  go_wp2_with fail
  go_ret
  exact⟨rfl,(Aa LL).below⟩
theorem ZcO (d:DD) (hd:FD d) (w:World) (hT:Lib.Utf8Tabs 1 2 w):Calls prog 94 #[d.agg] w fun e w'=>e= .returned (.bool (stV d))/\Below w.heap.size w w':=by
 have HA:=Ab (Vy d hd)
 have HB:=Ab (fun w hT=>Zeh d hd w hT)
 have HT:=Ab hT
 clear hT
 clear hd
 have LL:=Ab (Lie.new1 w (.D d))
 unfold stV
 generalize noV d=n at *
 generalize wholeV d=wh at *
 have hq0:=Ja d
 rw[hq0]
 clear hq0
 go_enter func94,ntmps94
 go_wp2_with (((with_reducible apply De);(case ho=>rfl);(case hx=>rfl);(case hw=>rfl);(case hc=>first|exact(Aa LL).one);simp only[nn]))
 refine(Aa HA _).mono ?_
 rintro _ w21 ⟨rfl,hb⟩
 replace LL:=Ab ((Aa LL).on hb)
 clear hb
 cases n
 ·go_wp2_with (((with_reducible apply De);(case ho=>rfl);(case hx=>rfl);(case hw=>rfl);(case hc=>first|exact(Aa LL).one);simp only[nn]))
  refine(Aa HB _ (Ar (Aa HT) (Aa LL).below)).mono ?_
  rintro _ w22 ⟨rfl,hb⟩
  replace LL:=Ab ((Aa LL).on hb)
  clear hb
  go_wp2_with fail
  go_ret
  exact⟨rfl,(Aa LL).below⟩
 ·go_wp2_with fail
  go_ret
  exact⟨rfl,(Aa LL).below⟩
