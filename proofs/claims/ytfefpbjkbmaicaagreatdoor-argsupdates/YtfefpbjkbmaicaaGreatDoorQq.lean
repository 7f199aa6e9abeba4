import Derived.Test.YtfefpbjkbmaicaaGreatDoorQp
set_option linter.all false
namespace Go.Proofs.YtfefpbjkbmaicaaGreatDoor
set_option maxRecDepth 100000
set_option maxHeartbeats 0
section
open Go Go.Proofs Go.RowKit FM
def Lz (d:DD):Bool:=if (thV d.v && !d.v.good)||(thV d.g && !Ml d.g)||(thV d.s && !Ml d.s)|| !Ks d.w|| !Ks d.e|| !Ks d.c then false else !((d.v.k !=0||d.w !=0) && (d.g.k !=0||d.s.k !=0))
def Rq (d:DD):Bool:=Lz d && (d.g.k !=0||d.s.k !=0)
def Rn (d:DD):Bool:=Lz d && (d.v.k !=0||d.w !=0)
theorem Zf (d:DD) (hd:FD d) (w:World):Calls Tryz.prog 42 #[d.agg] w fun e w'=>e= .returned (.bool (Lz d))/\Below w.heap.size w w':=by
 have HNV:=Ac (Mp d.v hd.1)
 have HNG:=Ac (Mp d.g hd.2.1)
 have HNS:=Ac (Mp d.s hd.2.2)
 have HKV:=Ac (Et d.v)
 have HKG:=Ac (Et d.g)
 have HKS:=Ac (Et d.s)
 have HGV:=Ac (Qr d.v hd.1)
 have HSG:=Ac (Qq d.g hd.2.1)
 have HSS:=Ac (Qq d.s hd.2.2)
 clear hd
 have L0:=Lie.new1 w (.D d)
 unfold Lz
 generalize thV d.v=tv at *
 generalize thV d.g=tg at *
 generalize thV d.s=ts at *
 generalize VV.good d.v=gv at *
 generalize Ml d.g=sg at *
 generalize Ml d.s=ss at *
 generalize hta:Ks d.w=ta at *
 generalize hte:Ks d.e=te at *
 generalize htc:Ks d.c=tc at *
 generalize hkv:(d.v.k !=0)=kv at *
 generalize hkg:(d.g.k !=0)=kg at *
 generalize hks:(d.s.k !=0)=ks at *
 generalize hqa:(d.w !=0)=qa at *
 clear hkv hkg hks
 unfold PB.obj DD.obj at L0
 unfold DD.agg at *
 unfold VV.agg at *
 have LL:=Ac L0
 clear L0
 go_enter Tryz.func42,Tryz.ntmps42
 go_wp2_with (first|(go_at_call 100;refine(Ae _ _).mono ?_;rintro _ _ ⟨rfl,rfl⟩)|(go_at_call 99;refine(Ab _ _).mono ?_;rintro _ _ ⟨rfl,rfl⟩)|(go_at_call 72;refine(Ad _ _).mono ?_;rintro _ _ ⟨rfl,rfl⟩))
 refine(Aa HNV _).mono ?_
 rintro _ w1 ⟨rfl,hb⟩
 replace LL:=Ac ((Aa LL).on hb)
 clear hb
 obtain⟨f0,c0_0,c0_1,c0_2,c0_3,c0_4,c0_5,c0_6,c0_7,c0_8,c0_9,c0_10,c0_11,c0_12,c0_13,c0_14,c0_15,c0_16,c0_17⟩:=(Aa LL).one
 try dsimp only at f0 c0_0 c0_1 c0_2 c0_3 c0_4 c0_5 c0_6 c0_7 c0_8 c0_9 c0_10 c0_11 c0_12 c0_13 c0_14 c0_15 c0_16 c0_17
 cases tv
 ·go_wp2_with (first|(go_at_call 100;refine(Ae _ _).mono ?_;rintro _ _ ⟨rfl,rfl⟩)|(go_at_call 99;refine(Ab _ _).mono ?_;rintro _ _ ⟨rfl,rfl⟩)|(go_at_call 72;refine(Ad _ _).mono ?_;rintro _ _ ⟨rfl,rfl⟩))
  refine(Aa HNG _).mono ?_
  rintro _ w2 ⟨rfl,hb⟩
  clear f0 c0_0 c0_1 c0_2 c0_3 c0_4 c0_5 c0_6 c0_7 c0_8 c0_9 c0_10 c0_11 c0_12 c0_13 c0_14 c0_15 c0_16 c0_17
  replace LL:=Ac ((Aa LL).on hb)
  clear hb
  obtain⟨f0,c0_0,c0_1,c0_2,c0_3,c0_4,c0_5,c0_6,c0_7,c0_8,c0_9,c0_10,c0_11,c0_12,c0_13,c0_14,c0_15,c0_16,c0_17⟩:=(Aa LL).one
  try dsimp only at f0 c0_0 c0_1 c0_2 c0_3 c0_4 c0_5 c0_6 c0_7 c0_8 c0_9 c0_10 c0_11 c0_12 c0_13 c0_14 c0_15 c0_16 c0_17
  cases tg
  ·go_wp2_with (first|(go_at_call 100;refine(Ae _ _).mono ?_;rintro _ _ ⟨rfl,rfl⟩)|(go_at_call 99;refine(Ab _ _).mono ?_;rintro _ _ ⟨rfl,rfl⟩)|(go_at_call 72;refine(Ad _ _).mono ?_;rintro _ _ ⟨rfl,rfl⟩))
   refine(Aa HNS _).mono ?_
   rintro _ w3 ⟨rfl,hb⟩
   clear f0 c0_0 c0_1 c0_2 c0_3 c0_4 c0_5 c0_6 c0_7 c0_8 c0_9 c0_10 c0_11 c0_12 c0_13 c0_14 c0_15 c0_16 c0_17
   replace LL:=Ac ((Aa LL).on hb)
   clear hb
   obtain⟨f0,c0_0,c0_1,c0_2,c0_3,c0_4,c0_5,c0_6,c0_7,c0_8,c0_9,c0_10,c0_11,c0_12,c0_13,c0_14,c0_15,c0_16,c0_17⟩:=(Aa LL).one
   try dsimp only at f0 c0_0 c0_1 c0_2 c0_3 c0_4 c0_5 c0_6 c0_7 c0_8 c0_9 c0_10 c0_11 c0_12 c0_13 c0_14 c0_15 c0_16 c0_17
   cases ts
   ·cases ta
    ·go_wp2_with (first|(go_at_call 100;refine(Ae _ _).mono ?_;rintro _ _ ⟨rfl,rfl⟩)|(go_at_call 99;refine(Ab _ _).mono ?_;rintro _ _ ⟨rfl,rfl⟩)|(go_at_call 72;refine(Ad _ _).mono ?_;rintro _ _ ⟨rfl,rfl⟩))
     go_ret
     exact⟨rfl,(Aa LL).below⟩
    ·cases te
     ·go_wp2_with (first|(go_at_call 100;refine(Ae _ _).mono ?_;rintro _ _ ⟨rfl,rfl⟩)|(go_at_call 99;refine(Ab _ _).mono ?_;rintro _ _ ⟨rfl,rfl⟩)|(go_at_call 72;refine(Ad _ _).mono ?_;rintro _ _ ⟨rfl,rfl⟩))
      go_ret
      exact⟨rfl,(Aa LL).below⟩
     ·cases tc
      ·go_wp2_with (first|(go_at_call 100;refine(Ae _ _).mono ?_;rintro _ _ ⟨rfl,rfl⟩)|(go_at_call 99;refine(Ab _ _).mono ?_;rintro _ _ ⟨rfl,rfl⟩)|(go_at_call 72;refine(Ad _ _).mono ?_;rintro _ _ ⟨rfl,rfl⟩))
       go_ret
       exact⟨rfl,(Aa LL).below⟩
      ·go_wp2_with (first|(go_at_call 100;refine(Ae _ _).mono ?_;rintro _ _ ⟨rfl,rfl⟩)|(go_at_call 99;refine(Ab _ _).mono ?_;rintro _ _ ⟨rfl,rfl⟩)|(go_at_call 72;refine(Ad _ _).mono ?_;rintro _ _ ⟨rfl,rfl⟩))
       refine(Aa HKV _).mono ?_
       rintro _ w4 ⟨rfl,hb⟩
       clear f0 c0_0 c0_1 c0_2 c0_3 c0_4 c0_5 c0_6 c0_7 c0_8 c0_9 c0_10 c0_11 c0_12 c0_13 c0_14 c0_15 c0_16 c0_17
       replace LL:=Ac ((Aa LL).on hb)
       clear hb
       obtain⟨f0,c0_0,c0_1,c0_2,c0_3,c0_4,c0_5,c0_6,c0_7,c0_8,c0_9,c0_10,c0_11,c0_12,c0_13,c0_14,c0_15,c0_16,c0_17⟩:=(Aa LL).one
       try dsimp only at f0 c0_0 c0_1 c0_2 c0_3 c0_4 c0_5 c0_6 c0_7 c0_8 c0_9 c0_10 c0_11 c0_12 c0_13 c0_14 c0_15 c0_16 c0_17
       cases kv
       ·cases qa
        ·go_wp2_with (first|(go_at_call 100;refine(Ae _ _).mono ?_;rintro _ _ ⟨rfl,rfl⟩)|(go_at_call 99;refine(Ab _ _).mono ?_;rintro _ _ ⟨rfl,rfl⟩)|(go_at_call 72;refine(Ad _ _).mono ?_;rintro _ _ ⟨rfl,rfl⟩))
         go_ret
         exact⟨rfl,(Aa LL).below⟩
        ·go_wp2_with (first|(go_at_call 100;refine(Ae _ _).mono ?_;rintro _ _ ⟨rfl,rfl⟩)|(go_at_call 99;refine(Ab _ _).mono ?_;rintro _ _ ⟨rfl,rfl⟩)|(go_at_call 72;refine(Ad _ _).mono ?_;rintro _ _ ⟨rfl,rfl⟩))
         refine(Aa HKG _).mono ?_
         rintro _ w5 ⟨rfl,hb⟩
         clear f0 c0_0 c0_1 c0_2 c0_3 c0_4 c0_5 c0_6 c0_7 c0_8 c0_9 c0_10 c0_11 c0_12 c0_13 c0_14 c0_15 c0_16 c0_17
         replace LL:=Ac ((Aa LL).on hb)
         clear hb
         obtain⟨f0,c0_0,c0_1,c0_2,c0_3,c0_4,c0_5,c0_6,c0_7,c0_8,c0_9,c0_10,c0_11,c0_12,c0_13,c0_14,c0_15,c0_16,c0_17⟩:=(Aa LL).one
         try dsimp only at f0 c0_0 c0_1 c0_2 c0_3 c0_4 c0_5 c0_6 c0_7 c0_8 c0_9 c0_10 c0_11 c0_12 c0_13 c0_14 c0_15 c0_16 c0_17
         cases kg
         ·go_wp2_with (first|(go_at_call 100;refine(Ae _ _).mono ?_;rintro _ _ ⟨rfl,rfl⟩)|(go_at_call 99;refine(Ab _ _).mono ?_;rintro _ _ ⟨rfl,rfl⟩)|(go_at_call 72;refine(Ad _ _).mono ?_;rintro _ _ ⟨rfl,rfl⟩))
          refine(Aa HKS _).mono ?_
          rintro _ w6 ⟨rfl,hb⟩
          clear f0 c0_0 c0_1 c0_2 c0_3 c0_4 c0_5 c0_6 c0_7 c0_8 c0_9 c0_10 c0_11 c0_12 c0_13 c0_14 c0_15 c0_16 c0_17
          replace LL:=Ac ((Aa LL).on hb)
          clear hb
          obtain⟨f0,c0_0,c0_1,c0_2,c0_3,c0_4,c0_5,c0_6,c0_7,c0_8,c0_9,c0_10,c0_11,c0_12,c0_13,c0_14,c0_15,c0_16,c0_17⟩:=(Aa LL).one
          try dsimp only at f0 c0_0 c0_1 c0_2 c0_3 c0_4 c0_5 c0_6 c0_7 c0_8 c0_9 c0_10 c0_11 c0_12 c0_13 c0_14 c0_15 c0_16 c0_17
          cases ks
          ·go_wp2_with (first|(go_at_call 100;refine(Ae _ _).mono ?_;rintro _ _ ⟨rfl,rfl⟩)|(go_at_call 99;refine(Ab _ _).mono ?_;rintro _ _ ⟨rfl,rfl⟩)|(go_at_call 72;refine(Ad _ _).mono ?_;rintro _ _ ⟨rfl,rfl⟩))
           go_ret
           exact⟨rfl,(Aa LL).below⟩
          ·go_wp2_with (first|(go_at_call 100;refine(Ae _ _).mono ?_;rintro _ _ ⟨rfl,rfl⟩)|(go_at_call 99;refine(Ab _ _).mono ?_;rintro _ _ ⟨rfl,rfl⟩)|(go_at_call 72;refine(Ad _ _).mono ?_;rintro _ _ ⟨rfl,rfl⟩))
           go_ret
           exact⟨rfl,(Aa LL).below⟩
         ·go_wp2_with (first|(go_at_call 100;refine(Ae _ _).mono ?_;rintro _ _ ⟨rfl,rfl⟩)|(go_at_call 99;refine(Ab _ _).mono ?_;rintro _ _ ⟨rfl,rfl⟩)|(go_at_call 72;refine(Ad _ _).mono ?_;rintro _ _ ⟨rfl,rfl⟩))
          go_ret
          exact⟨rfl,(Aa LL).below⟩
       ·go_wp2_with (first|(go_at_call 100;refine(Ae _ _).mono ?_;rintro _ _ ⟨rfl,rfl⟩)|(go_at_call 99;refine(Ab _ _).mono ?_;rintro _ _ ⟨rfl,rfl⟩)|(go_at_call 72;refine(Ad _ _).mono ?_;rintro _ _ ⟨rfl,rfl⟩))
        refine(Aa HKG _).mono ?_
        rintro _ w7 ⟨rfl,hb⟩
        clear f0 c0_0 c0_1 c0_2 c0_3 c0_4 c0_5 c0_6 c0_7 c0_8 c0_9 c0_10 c0_11 c0_12 c0_13 c0_14 c0_15 c0_16 c0_17
        replace LL:=Ac ((Aa LL).on hb)
        clear hb
        obtain⟨f0,c0_0,c0_1,c0_2,c0_3,c0_4,c0_5,c0_6,c0_7,c0_8,c0_9,c0_10,c0_11,c0_12,c0_13,c0_14,c0_15,c0_16,c0_17⟩:=(Aa LL).one
        try dsimp only at f0 c0_0 c0_1 c0_2 c0_3 c0_4 c0_5 c0_6 c0_7 c0_8 c0_9 c0_10 c0_11 c0_12 c0_13 c0_14 c0_15 c0_16 c0_17
        cases kg
        ·go_wp2_with (first|(go_at_call 100;refine(Ae _ _).mono ?_;rintro _ _ ⟨rfl,rfl⟩)|(go_at_call 99;refine(Ab _ _).mono ?_;rintro _ _ ⟨rfl,rfl⟩)|(go_at_call 72;refine(Ad _ _).mono ?_;rintro _ _ ⟨rfl,rfl⟩))
         refine(Aa HKS _).mono ?_
         rintro _ w8 ⟨rfl,hb⟩
         clear f0 c0_0 c0_1 c0_2 c0_3 c0_4 c0_5 c0_6 c0_7 c0_8 c0_9 c0_10 c0_11 c0_12 c0_13 c0_14 c0_15 c0_16 c0_17
         replace LL:=Ac ((Aa LL).on hb)
         clear hb
         obtain⟨f0,c0_0,c0_1,c0_2,c0_3,c0_4,c0_5,c0_6,c0_7,c0_8,c0_9,c0_10,c0_11,c0_12,c0_13,c0_14,c0_15,c0_16,c0_17⟩:=(Aa LL).one
         try dsimp only at f0 c0_0 c0_1 c0_2 c0_3 c0_4 c0_5 c0_6 c0_7 c0_8 c0_9 c0_10 c0_11 c0_12 c0_13 c0_14 c0_15 c0_16 c0_17
         cases ks
         ·go_wp2_with (first|(go_at_call 100;refine(Ae _ _).mono ?_;rintro _ _ ⟨rfl,rfl⟩)|(go_at_call 99;refine(Ab _ _).mono ?_;rintro _ _ ⟨rfl,rfl⟩)|(go_at_call 72;refine(Ad _ _).mono ?_;rintro _ _ ⟨rfl,rfl⟩))
          go_ret
          exact⟨rfl,(Aa LL).below⟩
         ·go_wp2_with (first|(go_at_call 100;refine(Ae _ _).mono ?_;rintro _ _ ⟨rfl,rfl⟩)|(go_at_call 99;refine(Ab _ _).mono ?_;rintro _ _ ⟨rfl,rfl⟩)|(go_at_call 72;refine(Ad _ _).mono ?_;rintro _ _ ⟨rfl,rfl⟩))
          go_ret
          exact⟨rfl,(Aa LL).below⟩
        ·go_wp2_with (first|(go_at_call 100;refine(Ae _ _).mono ?_;rintro _ _ ⟨rfl,rfl⟩)|(go_at_call 99;refine(Ab _ _).mono ?_;rintro _ _ ⟨rfl,rfl⟩)|(go_at_call 72;refine(Ad _ _).mono ?_;rintro _ _ ⟨rfl,rfl⟩))
         go_ret
         exact⟨rfl,(Aa LL).below⟩
   ·go_wp2_with (first|(go_at_call 100;refine(Ae _ _).mono ?_;rintro _ _ ⟨rfl,rfl⟩)|(go_at_call 99;refine(Ab _ _).mono ?_;rintro _ _ ⟨rfl,rfl⟩)|(go_at_call 72;refine(Ad _ _).mono ?_;rintro _ _ ⟨rfl,rfl⟩))
    refine(Aa HSS _).mono ?_
    rintro _ w9 ⟨rfl,hb⟩
    clear f0 c0_0 c0_1 c0_2 c0_3 c0_4 c0_5 c0_6 c0_7 c0_8 c0_9 c0_10 c0_11 c0_12 c0_13 c0_14 c0_15 c0_16 c0_17
    replace LL:=Ac ((Aa LL).on hb)
    clear hb
    obtain⟨f0,c0_0,c0_1,c0_2,c0_3,c0_4,c0_5,c0_6,c0_7,c0_8,c0_9,c0_10,c0_11,c0_12,c0_13,c0_14,c0_15,c0_16,c0_17⟩:=(Aa LL).one
    try dsimp only at f0 c0_0 c0_1 c0_2 c0_3 c0_4 c0_5 c0_6 c0_7 c0_8 c0_9 c0_10 c0_11 c0_12 c0_13 c0_14 c0_15 c0_16 c0_17
    cases ss
    ·go_wp2_with (first|(go_at_call 100;refine(Ae _ _).mono ?_;rintro _ _ ⟨rfl,rfl⟩)|(go_at_call 99;refine(Ab _ _).mono ?_;rintro _ _ ⟨rfl,rfl⟩)|(go_at_call 72;refine(Ad _ _).mono ?_;rintro _ _ ⟨rfl,rfl⟩))
     go_ret
     exact⟨rfl,(Aa LL).below⟩
    ·cases ta
     ·go_wp2_with (first|(go_at_call 100;refine(Ae _ _).mono ?_;rintro _ _ ⟨rfl,rfl⟩)|(go_at_call 99;refine(Ab _ _).mono ?_;rintro _ _ ⟨rfl,rfl⟩)|(go_at_call 72;refine(Ad _ _).mono ?_;rintro _ _ ⟨rfl,rfl⟩))
      go_ret
      exact⟨rfl,(Aa LL).below⟩
     ·cases te
      ·go_wp2_with (first|(go_at_call 100;refine(Ae _ _).mono ?_;rintro _ _ ⟨rfl,rfl⟩)|(go_at_call 99;refine(Ab _ _).mono ?_;rintro _ _ ⟨rfl,rfl⟩)|(go_at_call 72;refine(Ad _ _).mono ?_;rintro _ _ ⟨rfl,rfl⟩))
       go_ret
       exact⟨rfl,(Aa LL).below⟩
      ·cases tc
       ·go_wp2_with (first|(go_at_call 100;refine(Ae _ _).mono ?_;rintro _ _ ⟨rfl,rfl⟩)|(go_at_call 99;refine(Ab _ _).mono ?_;rintro _ _ ⟨rfl,rfl⟩)|(go_at_call 72;refine(Ad _ _).mono ?_;rintro _ _ ⟨rfl,rfl⟩))
        go_ret
        exact⟨rfl,(Aa LL).below⟩
       ·go_wp2_with (first|(go_at_call 100;refine(Ae _ _).mono ?_;rintro _ _ ⟨rfl,rfl⟩)|(go_at_call 99;refine(Ab _ _).mono ?_;rintro _ _ ⟨rfl,rfl⟩)|(go_at_call 72;refine(Ad _ _).mono ?_;rintro _ _ ⟨rfl,rfl⟩))
        refine(Aa HKV _).mono ?_
        rintro _ w10 ⟨rfl,hb⟩
        clear f0 c0_0 c0_1 c0_2 c0_3 c0_4 c0_5 c0_6 c0_7 c0_8 c0_9 c0_10 c0_11 c0_12 c0_13 c0_14 c0_15 c0_16 c0_17
        replace LL:=Ac ((Aa LL).on hb)
        clear hb
        obtain⟨f0,c0_0,c0_1,c0_2,c0_3,c0_4,c0_5,c0_6,c0_7,c0_8,c0_9,c0_10,c0_11,c0_12,c0_13,c0_14,c0_15,c0_16,c0_17⟩:=(Aa LL).one
        try dsimp only at f0 c0_0 c0_1 c0_2 c0_3 c0_4 c0_5 c0_6 c0_7 c0_8 c0_9 c0_10 c0_11 c0_12 c0_13 c0_14 c0_15 c0_16 c0_17
        cases kv
        ·cases qa
         ·go_wp2_with (first|(go_at_call 100;refine(Ae _ _).mono ?_;rintro _ _ ⟨rfl,rfl⟩)|(go_at_call 99;refine(Ab _ _).mono ?_;rintro _ _ ⟨rfl,rfl⟩)|(go_at_call 72;refine(Ad _ _).mono ?_;rintro _ _ ⟨rfl,rfl⟩))
          go_ret
          exact⟨rfl,(Aa LL).below⟩
         ·go_wp2_with (first|(go_at_call 100;refine(Ae _ _).mono ?_;rintro _ _ ⟨rfl,rfl⟩)|(go_at_call 99;refine(Ab _ _).mono ?_;rintro _ _ ⟨rfl,rfl⟩)|(go_at_call 72;refine(Ad _ _).mono ?_;rintro _ _ ⟨rfl,rfl⟩))
          refine(Aa HKG _).mono ?_
          rintro _ w11 ⟨rfl,hb⟩
          clear f0 c0_0 c0_1 c0_2 c0_3 c0_4 c0_5 c0_6 c0_7 c0_8 c0_9 c0_10 c0_11 c0_12 c0_13 c0_14 c0_15 c0_16 c0_17
          replace LL:=Ac ((Aa LL).on hb)
          clear hb
          obtain⟨f0,c0_0,c0_1,c0_2,c0_3,c0_4,c0_5,c0_6,c0_7,c0_8,c0_9,c0_10,c0_11,c0_12,c0_13,c0_14,c0_15,c0_16,c0_17⟩:=(Aa LL).one
          try dsimp only at f0 c0_0 c0_1 c0_2 c0_3 c0_4 c0_5 c0_6 c0_7 c0_8 c0_9 c0_10 c0_11 c0_12 c0_13 c0_14 c0_15 c0_16 c0_17
          cases kg
          ·go_wp2_with (first|(go_at_call 100;refine(Ae _ _).mono ?_;rintro _ _ ⟨rfl,rfl⟩)|(go_at_call 99;refine(Ab _ _).mono ?_;rintro _ _ ⟨rfl,rfl⟩)|(go_at_call 72;refine(Ad _ _).mono ?_;rintro _ _ ⟨rfl,rfl⟩))
           refine(Aa HKS _).mono ?_
           rintro _ w12 ⟨rfl,hb⟩
           clear f0 c0_0 c0_1 c0_2 c0_3 c0_4 c0_5 c0_6 c0_7 c0_8 c0_9 c0_10 c0_11 c0_12 c0_13 c0_14 c0_15 c0_16 c0_17
           replace LL:=Ac ((Aa LL).on hb)
           clear hb
           obtain⟨f0,c0_0,c0_1,c0_2,c0_3,c0_4,c0_5,c0_6,c0_7,c0_8,c0_9,c0_10,c0_11,c0_12,c0_13,c0_14,c0_15,c0_16,c0_17⟩:=(Aa LL).one
           try dsimp only at f0 c0_0 c0_1 c0_2 c0_3 c0_4 c0_5 c0_6 c0_7 c0_8 c0_9 c0_10 c0_11 c0_12 c0_13 c0_14 c0_15 c0_16 c0_17
           cases ks
           ·go_wp2_with (first|(go_at_call 100;refine(Ae _ _).mono ?_;rintro _ _ ⟨rfl,rfl⟩)|(go_at_call 99;refine(Ab _ _).mono ?_;rintro _ _ ⟨rfl,rfl⟩)|(go_at_call 72;refine(Ad _ _).mono ?_;rintro _ _ ⟨rfl,rfl⟩))
            go_ret
            exact⟨rfl,(Aa LL).below⟩
           ·go_wp2_with (first|(go_at_call 100;refine(Ae _ _).mono ?_;rintro _ _ ⟨rfl,rfl⟩)|(go_at_call 99;refine(Ab _ _).mono ?_;rintro _ _ ⟨rfl,rfl⟩)|(go_at_call 72;refine(Ad _ _).mono ?_;rintro _ _ ⟨rfl,rfl⟩))
            go_ret
            exact⟨rfl,(Aa LL).below⟩
          ·go_wp2_with (first|(go_at_call 100;refine(Ae _ _).mono ?_;rintro _ _ ⟨rfl,rfl⟩)|(go_at_call 99;refine(Ab _ _).mono ?_;rintro _ _ ⟨rfl,rfl⟩)|(go_at_call 72;refine(Ad _ _).mono ?_;rintro _ _ ⟨rfl,rfl⟩))
           go_ret
           exact⟨rfl,(Aa LL).below⟩
        ·go_wp2_with (first|(go_at_call 100;refine(Ae _ _).mono ?_;rintro _ _ ⟨rfl,rfl⟩)|(go_at_call 99;refine(Ab _ _).mono ?_;rintro _ _ ⟨rfl,rfl⟩)|(go_at_call 72;refine(Ad _ _).mono ?_;rintro _ _ ⟨rfl,rfl⟩))
         refine(Aa HKG _).mono ?_
         rintro _ w13 ⟨rfl,hb⟩
         clear f0 c0_0 c0_1 c0_2 c0_3 c0_4 c0_5 c0_6 c0_7 c0_8 c0_9 c0_10 c0_11 c0_12 c0_13 c0_14 c0_15 c0_16 c0_17
         replace LL:=Ac ((Aa LL).on hb)
         clear hb
         obtain⟨f0,c0_0,c0_1,c0_2,c0_3,c0_4,c0_5,c0_6,c0_7,c0_8,c0_9,c0_10,c0_11,c0_12,c0_13,c0_14,c0_15,c0_16,c0_17⟩:=(Aa LL).one
         try dsimp only at f0 c0_0 c0_1 c0_2 c0_3 c0_4 c0_5 c0_6 c0_7 c0_8 c0_9 c0_10 c0_11 c0_12 c0_13 c0_14 c0_15 c0_16 c0_17
         cases kg
         ·go_wp2_with (first|(go_at_call 100;refine(Ae _ _).mono ?_;rintro _ _ ⟨rfl,rfl⟩)|(go_at_call 99;refine(Ab _ _).mono ?_;rintro _ _ ⟨rfl,rfl⟩)|(go_at_call 72;refine(Ad _ _).mono ?_;rintro _ _ ⟨rfl,rfl⟩))
          refine(Aa HKS _).mono ?_
          rintro _ w14 ⟨rfl,hb⟩
          clear f0 c0_0 c0_1 c0_2 c0_3 c0_4 c0_5 c0_6 c0_7 c0_8 c0_9 c0_10 c0_11 c0_12 c0_13 c0_14 c0_15 c0_16 c0_17
          replace LL:=Ac ((Aa LL).on hb)
          clear hb
          obtain⟨f0,c0_0,c0_1,c0_2,c0_3,c0_4,c0_5,c0_6,c0_7,c0_8,c0_9,c0_10,c0_11,c0_12,c0_13,c0_14,c0_15,c0_16,c0_17⟩:=(Aa LL).one
          try dsimp only at f0 c0_0 c0_1 c0_2 c0_3 c0_4 c0_5 c0_6 c0_7 c0_8 c0_9 c0_10 c0_11 c0_12 c0_13 c0_14 c0_15 c0_16 c0_17
          cases ks
          ·go_wp2_with (first|(go_at_call 100;refine(Ae _ _).mono ?_;rintro _ _ ⟨rfl,rfl⟩)|(go_at_call 99;refine(Ab _ _).mono ?_;rintro _ _ ⟨rfl,rfl⟩)|(go_at_call 72;refine(Ad _ _).mono ?_;rintro _ _ ⟨rfl,rfl⟩))
           go_ret
           exact⟨rfl,(Aa LL).below⟩
          ·go_wp2_with (first|(go_at_call 100;refine(Ae _ _).mono ?_;rintro _ _ ⟨rfl,rfl⟩)|(go_at_call 99;refine(Ab _ _).mono ?_;rintro _ _ ⟨rfl,rfl⟩)|(go_at_call 72;refine(Ad _ _).mono ?_;rintro _ _ ⟨rfl,rfl⟩))
           go_ret
           exact⟨rfl,(Aa LL).below⟩
         ·go_wp2_with (first|(go_at_call 100;refine(Ae _ _).mono ?_;rintro _ _ ⟨rfl,rfl⟩)|(go_at_call 99;refine(Ab _ _).mono ?_;rintro _ _ ⟨rfl,rfl⟩)|(go_at_call 72;refine(Ad _ _).mono ?_;rintro _ _ ⟨rfl,rfl⟩))
          go_ret
          exact⟨rfl,(Aa LL).below⟩
  ·go_wp2_with (first|(go_at_call 100;refine(Ae _ _).mono ?_;rintro _ _ ⟨rfl,rfl⟩)|(go_at_call 99;refine(Ab _ _).mono ?_;rintro _ _ ⟨rfl,rfl⟩)|(go_at_call 72;refine(Ad _ _).mono ?_;rintro _ _ ⟨rfl,rfl⟩))
   refine(Aa HSG _).mono ?_
   rintro _ w15 ⟨rfl,hb⟩
   clear f0 c0_0 c0_1 c0_2 c0_3 c0_4 c0_5 c0_6 c0_7 c0_8 c0_9 c0_10 c0_11 c0_12 c0_13 c0_14 c0_15 c0_16 c0_17
   replace LL:=Ac ((Aa LL).on hb)
   clear hb
   obtain⟨f0,c0_0,c0_1,c0_2,c0_3,c0_4,c0_5,c0_6,c0_7,c0_8,c0_9,c0_10,c0_11,c0_12,c0_13,c0_14,c0_15,c0_16,c0_17⟩:=(Aa LL).one
   try dsimp only at f0 c0_0 c0_1 c0_2 c0_3 c0_4 c0_5 c0_6 c0_7 c0_8 c0_9 c0_10 c0_11 c0_12 c0_13 c0_14 c0_15 c0_16 c0_17
   cases sg
   ·go_wp2_with (first|(go_at_call 100;refine(Ae _ _).mono ?_;rintro _ _ ⟨rfl,rfl⟩)|(go_at_call 99;refine(Ab _ _).mono ?_;rintro _ _ ⟨rfl,rfl⟩)|(go_at_call 72;refine(Ad _ _).mono ?_;rintro _ _ ⟨rfl,rfl⟩))
    go_ret
    exact⟨rfl,(Aa LL).below⟩
   ·go_wp2_with (first|(go_at_call 100;refine(Ae _ _).mono ?_;rintro _ _ ⟨rfl,rfl⟩)|(go_at_call 99;refine(Ab _ _).mono ?_;rintro _ _ ⟨rfl,rfl⟩)|(go_at_call 72;refine(Ad _ _).mono ?_;rintro _ _ ⟨rfl,rfl⟩))
    refine(Aa HNS _).mono ?_
    rintro _ w16 ⟨rfl,hb⟩
    clear f0 c0_0 c0_1 c0_2 c0_3 c0_4 c0_5 c0_6 c0_7 c0_8 c0_9 c0_10 c0_11 c0_12 c0_13 c0_14 c0_15 c0_16 c0_17
    replace LL:=Ac ((Aa LL).on hb)
    clear hb
    obtain⟨f0,c0_0,c0_1,c0_2,c0_3,c0_4,c0_5,c0_6,c0_7,c0_8,c0_9,c0_10,c0_11,c0_12,c0_13,c0_14,c0_15,c0_16,c0_17⟩:=(Aa LL).one
    try dsimp only at f0 c0_0 c0_1 c0_2 c0_3 c0_4 c0_5 c0_6 c0_7 c0_8 c0_9 c0_10 c0_11 c0_12 c0_13 c0_14 c0_15 c0_16 c0_17
    cases ts
    ·cases ta
     ·go_wp2_with (first|(go_at_call 100;refine(Ae _ _).mono ?_;rintro _ _ ⟨rfl,rfl⟩)|(go_at_call 99;refine(Ab _ _).mono ?_;rintro _ _ ⟨rfl,rfl⟩)|(go_at_call 72;refine(Ad _ _).mono ?_;rintro _ _ ⟨rfl,rfl⟩))
      go_ret
      exact⟨rfl,(Aa LL).below⟩
     ·cases te
      ·go_wp2_with (first|(go_at_call 100;refine(Ae _ _).mono ?_;rintro _ _ ⟨rfl,rfl⟩)|(go_at_call 99;refine(Ab _ _).mono ?_;rintro _ _ ⟨rfl,rfl⟩)|(go_at_call 72;refine(Ad _ _).mono ?_;rintro _ _ ⟨rfl,rfl⟩))
       go_ret
       exact⟨rfl,(Aa LL).below⟩
      ·cases tc
       ·go_wp2_with (first|(go_at_call 100;refine(Ae _ _).mono ?_;rintro _ _ ⟨rfl,rfl⟩)|(go_at_call 99;refine(Ab _ _).mono ?_;rintro _ _ ⟨rfl,rfl⟩)|(go_at_call 72;refine(Ad _ _).mono ?_;rintro _ _ ⟨rfl,rfl⟩))
        go_ret
        exact⟨rfl,(Aa LL).below⟩
       ·go_wp2_with (first|(go_at_call 100;refine(Ae _ _).mono ?_;rintro _ _ ⟨rfl,rfl⟩)|(go_at_call 99;refine(Ab _ _).mono ?_;rintro _ _ ⟨rfl,rfl⟩)|(go_at_call 72;refine(Ad _ _).mono ?_;rintro _ _ ⟨rfl,rfl⟩))
        refine(Aa HKV _).mono ?_
        rintro _ w17 ⟨rfl,hb⟩
        clear f0 c0_0 c0_1 c0_2 c0_3 c0_4 c0_5 c0_6 c0_7 c0_8 c0_9 c0_10 c0_11 c0_12 c0_13 c0_14 c0_15 c0_16 c0_17
        replace LL:=Ac ((Aa LL).on hb)
        clear hb
        obtain⟨f0,c0_0,c0_1,c0_2,c0_3,c0_4,c0_5,c0_6,c0_7,c0_8,c0_9,c0_10,c0_11,c0_12,c0_13,c0_14,c0_15,c0_16,c0_17⟩:=(Aa LL).one
        try dsimp only at f0 c0_0 c0_1 c0_2 c0_3 c0_4 c0_5 c0_6 c0_7 c0_8 c0_9 c0_10 c0_11 c0_12 c0_13 c0_14 c0_15 c0_16 c0_17
        cases kv
        ·cases qa
         ·go_wp2_with (first|(go_at_call 100;refine(Ae _ _).mono ?_;rintro _ _ ⟨rfl,rfl⟩)|(go_at_call 99;refine(Ab _ _).mono ?_;rintro _ _ ⟨rfl,rfl⟩)|(go_at_call 72;refine(Ad _ _).mono ?_;rintro _ _ ⟨rfl,rfl⟩))
          go_ret
          exact⟨rfl,(Aa LL).below⟩
         ·go_wp2_with (first|(go_at_call 100;refine(Ae _ _).mono ?_;rintro _ _ ⟨rfl,rfl⟩)|(go_at_call 99;refine(Ab _ _).mono ?_;rintro _ _ ⟨rfl,rfl⟩)|(go_at_call 72;refine(Ad _ _).mono ?_;rintro _ _ ⟨rfl,rfl⟩))
          refine(Aa HKG _).mono ?_
          rintro _ w18 ⟨rfl,hb⟩
          clear f0 c0_0 c0_1 c0_2 c0_3 c0_4 c0_5 c0_6 c0_7 c0_8 c0_9 c0_10 c0_11 c0_12 c0_13 c0_14 c0_15 c0_16 c0_17
          replace LL:=Ac ((Aa LL).on hb)
          clear hb
          obtain⟨f0,c0_0,c0_1,c0_2,c0_3,c0_4,c0_5,c0_6,c0_7,c0_8,c0_9,c0_10,c0_11,c0_12,c0_13,c0_14,c0_15,c0_16,c0_17⟩:=(Aa LL).one
          try dsimp only at f0 c0_0 c0_1 c0_2 c0_3 c0_4 c0_5 c0_6 c0_7 c0_8 c0_9 c0_10 c0_11 c0_12 c0_13 c0_14 c0_15 c0_16 c0_17
          cases kg
          ·go_wp2_with (first|(go_at_call 100;refine(Ae _ _).mono ?_;rintro _ _ ⟨rfl,rfl⟩)|(go_at_call 99;refine(Ab _ _).mono ?_;rintro _ _ ⟨rfl,rfl⟩)|(go_at_call 72;refine(Ad _ _).mono ?_;rintro _ _ ⟨rfl,rfl⟩))
           refine(Aa HKS _).mono ?_
           rintro _ w19 ⟨rfl,hb⟩
           clear f0 c0_0 c0_1 c0_2 c0_3 c0_4 c0_5 c0_6 c0_7 c0_8 c0_9 c0_10 c0_11 c0_12 c0_13 c0_14 c0_15 c0_16 c0_17
           replace LL:=Ac ((Aa LL).on hb)
           clear hb
           obtain⟨f0,c0_0,c0_1,c0_2,c0_3,c0_4,c0_5,c0_6,c0_7,c0_8,c0_9,c0_10,c0_11,c0_12,c0_13,c0_14,c0_15,c0_16,c0_17⟩:=(Aa LL).one
           try dsimp only at f0 c0_0 c0_1 c0_2 c0_3 c0_4 c0_5 c0_6 c0_7 c0_8 c0_9 c0_10 c0_11 c0_12 c0_13 c0_14 c0_15 c0_16 c0_17
           cases ks
           ·go_wp2_with (first|(go_at_call 100;refine(Ae _ _).mono ?_;rintro _ _ ⟨rfl,rfl⟩)|(go_at_call 99;refine(Ab _ _).mono ?_;rintro _ _ ⟨rfl,rfl⟩)|(go_at_call 72;refine(Ad _ _).mono ?_;rintro _ _ ⟨rfl,rfl⟩))
            go_ret
            exact⟨rfl,(Aa LL).below⟩
           ·go_wp2_with (first|(go_at_call 100;refine(Ae _ _).mono ?_;rintro _ _ ⟨rfl,rfl⟩)|(go_at_call 99;refine(Ab _ _).mono ?_;rintro _ _ ⟨rfl,rfl⟩)|(go_at_call 72;refine(Ad _ _).mono ?_;rintro _ _ ⟨rfl,rfl⟩))
            go_ret
            exact⟨rfl,(Aa LL).below⟩
          ·go_wp2_with (first|(go_at_call 100;refine(Ae _ _).mono ?_;rintro _ _ ⟨rfl,rfl⟩)|(go_at_call 99;refine(Ab _ _).mono ?_;rintro _ _ ⟨rfl,rfl⟩)|(go_at_call 72;refine(Ad _ _).mono ?_;rintro _ _ ⟨rfl,rfl⟩))
           go_ret
           exact⟨rfl,(Aa LL).below⟩
        ·go_wp2_with (first|(go_at_call 100;refine(Ae _ _).mono ?_;rintro _ _ ⟨rfl,rfl⟩)|(go_at_call 99;refine(Ab _ _).mono ?_;rintro _ _ ⟨rfl,rfl⟩)|(go_at_call 72;refine(Ad _ _).mono ?_;rintro _ _ ⟨rfl,rfl⟩))
         refine(Aa HKG _).mono ?_
         rintro _ w20 ⟨rfl,hb⟩
         clear f0 c0_0 c0_1 c0_2 c0_3 c0_4 c0_5 c0_6 c0_7 c0_8 c0_9 c0_10 c0_11 c0_12 c0_13 c0_14 c0_15 c0_16 c0_17
         replace LL:=Ac ((Aa LL).on hb)
         clear hb
         obtain⟨f0,c0_0,c0_1,c0_2,c0_3,c0_4,c0_5,c0_6,c0_7,c0_8,c0_9,c0_10,c0_11,c0_12,c0_13,c0_14,c0_15,c0_16,c0_17⟩:=(Aa LL).one
         try dsimp only at f0 c0_0 c0_1 c0_2 c0_3 c0_4 c0_5 c0_6 c0_7 c0_8 c0_9 c0_10 c0_11 c0_12 c0_13 c0_14 c0_15 c0_16 c0_17
         cases kg
         ·go_wp2_with (first|(go_at_call 100;refine(Ae _ _).mono ?_;rintro _ _ ⟨rfl,rfl⟩)|(go_at_call 99;refine(Ab _ _).mono ?_;rintro _ _ ⟨rfl,rfl⟩)|(go_at_call 72;refine(Ad _ _).mono ?_;rintro _ _ ⟨rfl,rfl⟩))
          refine(Aa HKS _).mono ?_
          rintro _ w21 ⟨rfl,hb⟩
          clear f0 c0_0 c0_1 c0_2 c0_3 c0_4 c0_5 c0_6 c0_7 c0_8 c0_9 c0_10 c0_11 c0_12 c0_13 c0_14 c0_15 c0_16 c0_17
          replace LL:=Ac ((Aa LL).on hb)
          clear hb
          obtain⟨f0,c0_0,c0_1,c0_2,c0_3,c0_4,c0_5,c0_6,c0_7,c0_8,c0_9,c0_10,c0_11,c0_12,c0_13,c0_14,c0_15,c0_16,c0_17⟩:=(Aa LL).one
          try dsimp only at f0 c0_0 c0_1 c0_2 c0_3 c0_4 c0_5 c0_6 c0_7 c0_8 c0_9 c0_10 c0_11 c0_12 c0_13 c0_14 c0_15 c0_16 c0_17
          cases ks
          ·go_wp2_with (first|(go_at_call 100;refine(Ae _ _).mono ?_;rintro _ _ ⟨rfl,rfl⟩)|(go_at_call 99;refine(Ab _ _).mono ?_;rintro _ _ ⟨rfl,rfl⟩)|(go_at_call 72;refine(Ad _ _).mono ?_;rintro _ _ ⟨rfl,rfl⟩))
           go_ret
           exact⟨rfl,(Aa LL).below⟩
          ·go_wp2_with (first|(go_at_call 100;refine(Ae _ _).mono ?_;rintro _ _ ⟨rfl,rfl⟩)|(go_at_call 99;refine(Ab _ _).mono ?_;rintro _ _ ⟨rfl,rfl⟩)|(go_at_call 72;refine(Ad _ _).mono ?_;rintro _ _ ⟨rfl,rfl⟩))
           go_ret
           exact⟨rfl,(Aa LL).below⟩
         ·go_wp2_with (first|(go_at_call 100;refine(Ae _ _).mono ?_;rintro _ _ ⟨rfl,rfl⟩)|(go_at_call 99;refine(Ab _ _).mono ?_;rintro _ _ ⟨rfl,rfl⟩)|(go_at_call 72;refine(Ad _ _).mono ?_;rintro _ _ ⟨rfl,rfl⟩))
          go_ret
          exact⟨rfl,(Aa LL).below⟩
    ·go_wp2_with (first|(go_at_call 100;refine(Ae _ _).mono ?_;rintro _ _ ⟨rfl,rfl⟩)|(go_at_call 99;refine(Ab _ _).mono ?_;rintro _ _ ⟨rfl,rfl⟩)|(go_at_call 72;refine(Ad _ _).mono ?_;rintro _ _ ⟨rfl,rfl⟩))
     refine(Aa HSS _).mono ?_
     rintro _ w22 ⟨rfl,hb⟩
     clear f0 c0_0 c0_1 c0_2 c0_3 c0_4 c0_5 c0_6 c0_7 c0_8 c0_9 c0_10 c0_11 c0_12 c0_13 c0_14 c0_15 c0_16 c0_17
     replace LL:=Ac ((Aa LL).on hb)
     clear hb
     obtain⟨f0,c0_0,c0_1,c0_2,c0_3,c0_4,c0_5,c0_6,c0_7,c0_8,c0_9,c0_10,c0_11,c0_12,c0_13,c0_14,c0_15,c0_16,c0_17⟩:=(Aa LL).one
     try dsimp only at f0 c0_0 c0_1 c0_2 c0_3 c0_4 c0_5 c0_6 c0_7 c0_8 c0_9 c0_10 c0_11 c0_12 c0_13 c0_14 c0_15 c0_16 c0_17
     cases ss
     ·go_wp2_with (first|(go_at_call 100;refine(Ae _ _).mono ?_;rintro _ _ ⟨rfl,rfl⟩)|(go_at_call 99;refine(Ab _ _).mono ?_;rintro _ _ ⟨rfl,rfl⟩)|(go_at_call 72;refine(Ad _ _).mono ?_;rintro _ _ ⟨rfl,rfl⟩))
      go_ret
      exact⟨rfl,(Aa LL).below⟩
     ·cases ta
      ·go_wp2_with (first|(go_at_call 100;refine(Ae _ _).mono ?_;rintro _ _ ⟨rfl,rfl⟩)|(go_at_call 99;refine(Ab _ _).mono ?_;rintro _ _ ⟨rfl,rfl⟩)|(go_at_call 72;refine(Ad _ _).mono ?_;rintro _ _ ⟨rfl,rfl⟩))
       go_ret
       exact⟨rfl,(Aa LL).below⟩
      ·cases te
       ·go_wp2_with (first|(go_at_call 100;refine(Ae _ _).mono ?_;rintro _ _ ⟨rfl,rfl⟩)|(go_at_call 99;refine(Ab _ _).mono ?_;rintro _ _ ⟨rfl,rfl⟩)|(go_at_call 72;refine(Ad _ _).mono ?_;rintro _ _ ⟨rfl,rfl⟩))
        go_ret
        exact⟨rfl,(Aa LL).below⟩
       ·cases tc
        ·go_wp2_with (first|(go_at_call 100;refine(Ae _ _).mono ?_;rintro _ _ ⟨rfl,rfl⟩)|(go_at_call 99;refine(Ab _ _).mono ?_;rintro _ _ ⟨rfl,rfl⟩)|(go_at_call 72;refine(Ad _ _).mono ?_;rintro _ _ ⟨rfl,rfl⟩))
         go_ret
         exact⟨rfl,(Aa LL).below⟩
        ·go_wp2_with (first|(go_at_call 100;refine(Ae _ _).mono ?_;rintro _ _ ⟨rfl,rfl⟩)|(go_at_call 99;refine(Ab _ _).mono ?_;rintro _ _ ⟨rfl,rfl⟩)|(go_at_call 72;refine(Ad _ _).mono ?_;rintro _ _ ⟨rfl,rfl⟩))
         refine(Aa HKV _).mono ?_
         rintro _ w23 ⟨rfl,hb⟩
         clear f0 c0_0 c0_1 c0_2 c0_3 c0_4 c0_5 c0_6 c0_7 c0_8 c0_9 c0_10 c0_11 c0_12 c0_13 c0_14 c0_15 c0_16 c0_17
         replace LL:=Ac ((Aa LL).on hb)
         clear hb
         obtain⟨f0,c0_0,c0_1,c0_2,c0_3,c0_4,c0_5,c0_6,c0_7,c0_8,c0_9,c0_10,c0_11,c0_12,c0_13,c0_14,c0_15,c0_16,c0_17⟩:=(Aa LL).one
         try dsimp only at f0 c0_0 c0_1 c0_2 c0_3 c0_4 c0_5 c0_6 c0_7 c0_8 c0_9 c0_10 c0_11 c0_12 c0_13 c0_14 c0_15 c0_16 c0_17
         cases kv
         ·cases qa
          ·go_wp2_with (first|(go_at_call 100;refine(Ae _ _).mono ?_;rintro _ _ ⟨rfl,rfl⟩)|(go_at_call 99;refine(Ab _ _).mono ?_;rintro _ _ ⟨rfl,rfl⟩)|(go_at_call 72;refine(Ad _ _).mono ?_;rintro _ _ ⟨rfl,rfl⟩))
           go_ret
           exact⟨rfl,(Aa LL).below⟩
          ·go_wp2_with (first|(go_at_call 100;refine(Ae _ _).mono ?_;rintro _ _ ⟨rfl,rfl⟩)|(go_at_call 99;refine(Ab _ _).mono ?_;rintro _ _ ⟨rfl,rfl⟩)|(go_at_call 72;refine(Ad _ _).mono ?_;rintro _ _ ⟨rfl,rfl⟩))
           refine(Aa HKG _).mono ?_
           rintro _ w24 ⟨rfl,hb⟩
           clear f0 c0_0 c0_1 c0_2 c0_3 c0_4 c0_5 c0_6 c0_7 c0_8 c0_9 c0_10 c0_11 c0_12 c0_13 c0_14 c0_15 c0_16 c0_17
           replace LL:=Ac ((Aa LL).on hb)
           clear hb
           obtain⟨f0,c0_0,c0_1,c0_2,c0_3,c0_4,c0_5,c0_6,c0_7,c0_8,c0_9,c0_10,c0_11,c0_12,c0_13,c0_14,c0_15,c0_16,c0_17⟩:=(Aa LL).one
           try dsimp only at f0 c0_0 c0_1 c0_2 c0_3 c0_4 c0_5 c0_6 c0_7 c0_8 c0_9 c0_10 c0_11 c0_12 c0_13 c0_14 c0_15 c0_16 c0_17
           cases kg
           ·go_wp2_with (first|(go_at_call 100;refine(Ae _ _).mono ?_;rintro _ _ ⟨rfl,rfl⟩)|(go_at_call 99;refine(Ab _ _).mono ?_;rintro _ _ ⟨rfl,rfl⟩)|(go_at_call 72;refine(Ad _ _).mono ?_;rintro _ _ ⟨rfl,rfl⟩))
            refine(Aa HKS _).mono ?_
            rintro _ w25 ⟨rfl,hb⟩
            clear f0 c0_0 c0_1 c0_2 c0_3 c0_4 c0_5 c0_6 c0_7 c0_8 c0_9 c0_10 c0_11 c0_12 c0_13 c0_14 c0_15 c0_16 c0_17
            replace LL:=Ac ((Aa LL).on hb)
            clear hb
            obtain⟨f0,c0_0,c0_1,c0_2,c0_3,c0_4,c0_5,c0_6,c0_7,c0_8,c0_9,c0_10,c0_11,c0_12,c0_13,c0_14,c0_15,c0_16,c0_17⟩:=(Aa LL).one
            try dsimp only at f0 c0_0 c0_1 c0_2 c0_3 c0_4 c0_5 c0_6 c0_7 c0_8 c0_9 c0_10 c0_11 c0_12 c0_13 c0_14 c0_15 c0_16 c0_17
            cases ks
            ·go_wp2_with (first|(go_at_call 100;refine(Ae _ _).mono ?_;rintro _ _ ⟨rfl,rfl⟩)|(go_at_call 99;refine(Ab _ _).mono ?_;rintro _ _ ⟨rfl,rfl⟩)|(go_at_call 72;refine(Ad _ _).mono ?_;rintro _ _ ⟨rfl,rfl⟩))
             go_ret
             exact⟨rfl,(Aa LL).below⟩
            ·go_wp2_with (first|(go_at_call 100;refine(Ae _ _).mono ?_;rintro _ _ ⟨rfl,rfl⟩)|(go_at_call 99;refine(Ab _ _).mono ?_;rintro _ _ ⟨rfl,rfl⟩)|(go_at_call 72;refine(Ad _ _).mono ?_;rintro _ _ ⟨rfl,rfl⟩))
             go_ret
             exact⟨rfl,(Aa LL).below⟩
           ·go_wp2_with (first|(go_at_call 100;refine(Ae _ _).mono ?_;rintro _ _ ⟨rfl,rfl⟩)|(go_at_call 99;refine(Ab _ _).mono ?_;rintro _ _ ⟨rfl,rfl⟩)|(go_at_call 72;refine(Ad _ _).mono ?_;rintro _ _ ⟨rfl,rfl⟩))
            go_ret
            exact⟨rfl,(Aa LL).below⟩
         ·go_wp2_with (first|(go_at_call 100;refine(Ae _ _).mono ?_;rintro _ _ ⟨rfl,rfl⟩)|(go_at_call 99;refine(Ab _ _).mono ?_;rintro _ _ ⟨rfl,rfl⟩)|(go_at_call 72;refine(Ad _ _).mono ?_;rintro _ _ ⟨rfl,rfl⟩))
          refine(Aa HKG _).mono ?_
          rintro _ w26 ⟨rfl,hb⟩
          clear f0 c0_0 c0_1 c0_2 c0_3 c0_4 c0_5 c0_6 c0_7 c0_8 c0_9 c0_10 c0_11 c0_12 c0_13 c0_14 c0_15 c0_16 c0_17
          replace LL:=Ac ((Aa LL).on hb)
          clear hb
          obtain⟨f0,c0_0,c0_1,c0_2,c0_3,c0_4,c0_5,c0_6,c0_7,c0_8,c0_9,c0_10,c0_11,c0_12,c0_13,c0_14,c0_15,c0_16,c0_17⟩:=(Aa LL).one
          try dsimp only at f0 c0_0 c0_1 c0_2 c0_3 c0_4 c0_5 c0_6 c0_7 c0_8 c0_9 c0_10 c0_11 c0_12 c0_13 c0_14 c0_15 c0_16 c0_17
          cases kg
          ·go_wp2_with (first|(go_at_call 100;refine(Ae _ _).mono ?_;rintro _ _ ⟨rfl,rfl⟩)|(go_at_call 99;refine(Ab _ _).mono ?_;rintro _ _ ⟨rfl,rfl⟩)|(go_at_call 72;refine(Ad _ _).mono ?_;rintro _ _ ⟨rfl,rfl⟩))
           refine(Aa HKS _).mono ?_
           rintro _ w27 ⟨rfl,hb⟩
           clear f0 c0_0 c0_1 c0_2 c0_3 c0_4 c0_5 c0_6 c0_7 c0_8 c0_9 c0_10 c0_11 c0_12 c0_13 c0_14 c0_15 c0_16 c0_17
           replace LL:=Ac ((Aa LL).on hb)
           clear hb
           obtain⟨f0,c0_0,c0_1,c0_2,c0_3,c0_4,c0_5,c0_6,c0_7,c0_8,c0_9,c0_10,c0_11,c0_12,c0_13,c0_14,c0_15,c0_16,c0_17⟩:=(Aa LL).one
           try dsimp only at f0 c0_0 c0_1 c0_2 c0_3 c0_4 c0_5 c0_6 c0_7 c0_8 c0_9 c0_10 c0_11 c0_12 c0_13 c0_14 c0_15 c0_16 c0_17
           cases ks
           ·go_wp2_with (first|(go_at_call 100;refine(Ae _ _).mono ?_;rintro _ _ ⟨rfl,rfl⟩)|(go_at_call 99;refine(Ab _ _).mono ?_;rintro _ _ ⟨rfl,rfl⟩)|(go_at_call 72;refine(Ad _ _).mono ?_;rintro _ _ ⟨rfl,rfl⟩))
            go_ret
            exact⟨rfl,(Aa LL).below⟩
           ·go_wp2_with (first|(go_at_call 100;refine(Ae _ _).mono ?_;rintro _ _ ⟨rfl,rfl⟩)|(go_at_call 99;refine(Ab _ _).mono ?_;rintro _ _ ⟨rfl,rfl⟩)|(go_at_call 72;refine(Ad _ _).mono ?_;rintro _ _ ⟨rfl,rfl⟩))
            go_ret
            exact⟨rfl,(Aa LL).below⟩
          ·go_wp2_with (first|(go_at_call 100;refine(Ae _ _).mono ?_;rintro _ _ ⟨rfl,rfl⟩)|(go_at_call 99;refine(Ab _ _).mono ?_;rintro _ _ ⟨rfl,rfl⟩)|(go_at_call 72;refine(Ad _ _).mono ?_;rintro _ _ ⟨rfl,rfl⟩))
           go_ret
           exact⟨rfl,(Aa LL).below⟩
 ·go_wp2_with (first|(go_at_call 100;refine(Ae _ _).mono ?_;rintro _ _ ⟨rfl,rfl⟩)|(go_at_call 99;refine(Ab _ _).mono ?_;rintro _ _ ⟨rfl,rfl⟩)|(go_at_call 72;refine(Ad _ _).mono ?_;rintro _ _ ⟨rfl,rfl⟩))
  refine(Aa HGV _).mono ?_
  rintro _ w28 ⟨rfl,hb⟩
  clear f0 c0_0 c0_1 c0_2 c0_3 c0_4 c0_5 c0_6 c0_7 c0_8 c0_9 c0_10 c0_11 c0_12 c0_13 c0_14 c0_15 c0_16 c0_17
  replace LL:=Ac ((Aa LL).on hb)
  clear hb
  obtain⟨f0,c0_0,c0_1,c0_2,c0_3,c0_4,c0_5,c0_6,c0_7,c0_8,c0_9,c0_10,c0_11,c0_12,c0_13,c0_14,c0_15,c0_16,c0_17⟩:=(Aa LL).one
  try dsimp only at f0 c0_0 c0_1 c0_2 c0_3 c0_4 c0_5 c0_6 c0_7 c0_8 c0_9 c0_10 c0_11 c0_12 c0_13 c0_14 c0_15 c0_16 c0_17
  cases gv
  ·go_wp2_with (first|(go_at_call 100;refine(Ae _ _).mono ?_;rintro _ _ ⟨rfl,rfl⟩)|(go_at_call 99;refine(Ab _ _).mono ?_;rintro _ _ ⟨rfl,rfl⟩)|(go_at_call 72;refine(Ad _ _).mono ?_;rintro _ _ ⟨rfl,rfl⟩))
   go_ret
   exact⟨rfl,(Aa LL).below⟩
  ·go_wp2_with (first|(go_at_call 100;refine(Ae _ _).mono ?_;rintro _ _ ⟨rfl,rfl⟩)|(go_at_call 99;refine(Ab _ _).mono ?_;rintro _ _ ⟨rfl,rfl⟩)|(go_at_call 72;refine(Ad _ _).mono ?_;rintro _ _ ⟨rfl,rfl⟩))
   refine(Aa HNG _).mono ?_
   rintro _ w29 ⟨rfl,hb⟩
   clear f0 c0_0 c0_1 c0_2 c0_3 c0_4 c0_5 c0_6 c0_7 c0_8 c0_9 c0_10 c0_11 c0_12 c0_13 c0_14 c0_15 c0_16 c0_17
   replace LL:=Ac ((Aa LL).on hb)
   clear hb
   obtain⟨f0,c0_0,c0_1,c0_2,c0_3,c0_4,c0_5,c0_6,c0_7,c0_8,c0_9,c0_10,c0_11,c0_12,c0_13,c0_14,c0_15,c0_16,c0_17⟩:=(Aa LL).one
   try dsimp only at f0 c0_0 c0_1 c0_2 c0_3 c0_4 c0_5 c0_6 c0_7 c0_8 c0_9 c0_10 c0_11 c0_12 c0_13 c0_14 c0_15 c0_16 c0_17
   cases tg
   ·go_wp2_with (first|(go_at_call 100;refine(Ae _ _).mono ?_;rintro _ _ ⟨rfl,rfl⟩)|(go_at_call 99;refine(Ab _ _).mono ?_;rintro _ _ ⟨rfl,rfl⟩)|(go_at_call 72;refine(Ad _ _).mono ?_;rintro _ _ ⟨rfl,rfl⟩))
    refine(Aa HNS _).mono ?_
    rintro _ w30 ⟨rfl,hb⟩
    clear f0 c0_0 c0_1 c0_2 c0_3 c0_4 c0_5 c0_6 c0_7 c0_8 c0_9 c0_10 c0_11 c0_12 c0_13 c0_14 c0_15 c0_16 c0_17
    replace LL:=Ac ((Aa LL).on hb)
    clear hb
    obtain⟨f0,c0_0,c0_1,c0_2,c0_3,c0_4,c0_5,c0_6,c0_7,c0_8,c0_9,c0_10,c0_11,c0_12,c0_13,c0_14,c0_15,c0_16,c0_17⟩:=(Aa LL).one
    try dsimp only at f0 c0_0 c0_1 c0_2 c0_3 c0_4 c0_5 c0_6 c0_7 c0_8 c0_9 c0_10 c0_11 c0_12 c0_13 c0_14 c0_15 c0_16 c0_17
    cases ts
    ·cases ta
     ·go_wp2_with (first|(go_at_call 100;refine(Ae _ _).mono ?_;rintro _ _ ⟨rfl,rfl⟩)|(go_at_call 99;refine(Ab _ _).mono ?_;rintro _ _ ⟨rfl,rfl⟩)|(go_at_call 72;refine(Ad _ _).mono ?_;rintro _ _ ⟨rfl,rfl⟩))
      go_ret
      exact⟨rfl,(Aa LL).below⟩
     ·cases te
      ·go_wp2_with (first|(go_at_call 100;refine(Ae _ _).mono ?_;rintro _ _ ⟨rfl,rfl⟩)|(go_at_call 99;refine(Ab _ _).mono ?_;rintro _ _ ⟨rfl,rfl⟩)|(go_at_call 72;refine(Ad _ _).mono ?_;rintro _ _ ⟨rfl,rfl⟩))
       go_ret
       exact⟨rfl,(Aa LL).below⟩
      ·cases tc
       ·go_wp2_with (first|(go_at_call 100;refine(Ae _ _).mono ?_;rintro _ _ ⟨rfl,rfl⟩)|(go_at_call 99;refine(Ab _ _).mono ?_;rintro _ _ ⟨rfl,rfl⟩)|(go_at_call 72;refine(Ad _ _).mono ?_;rintro _ _ ⟨rfl,rfl⟩))
        go_ret
        exact⟨rfl,(Aa LL).below⟩
       ·go_wp2_with (first|(go_at_call 100;refine(Ae _ _).mono ?_;rintro _ _ ⟨rfl,rfl⟩)|(go_at_call 99;refine(Ab _ _).mono ?_;rintro _ _ ⟨rfl,rfl⟩)|(go_at_call 72;refine(Ad _ _).mono ?_;rintro _ _ ⟨rfl,rfl⟩))
        refine(Aa HKV _).mono ?_
        rintro _ w31 ⟨rfl,hb⟩
        clear f0 c0_0 c0_1 c0_2 c0_3 c0_4 c0_5 c0_6 c0_7 c0_8 c0_9 c0_10 c0_11 c0_12 c0_13 c0_14 c0_15 c0_16 c0_17
        replace LL:=Ac ((Aa LL).on hb)
        clear hb
        obtain⟨f0,c0_0,c0_1,c0_2,c0_3,c0_4,c0_5,c0_6,c0_7,c0_8,c0_9,c0_10,c0_11,c0_12,c0_13,c0_14,c0_15,c0_16,c0_17⟩:=(Aa LL).one
        try dsimp only at f0 c0_0 c0_1 c0_2 c0_3 c0_4 c0_5 c0_6 c0_7 c0_8 c0_9 c0_10 c0_11 c0_12 c0_13 c0_14 c0_15 c0_16 c0_17
        cases kv
        ·cases qa
         ·go_wp2_with (first|(go_at_call 100;refine(Ae _ _).mono ?_;rintro _ _ ⟨rfl,rfl⟩)|(go_at_call 99;refine(Ab _ _).mono ?_;rintro _ _ ⟨rfl,rfl⟩)|(go_at_call 72;refine(Ad _ _).mono ?_;rintro _ _ ⟨rfl,rfl⟩))
          go_ret
          exact⟨rfl,(Aa LL).below⟩
         ·go_wp2_with (first|(go_at_call 100;refine(Ae _ _).mono ?_;rintro _ _ ⟨rfl,rfl⟩)|(go_at_call 99;refine(Ab _ _).mono ?_;rintro _ _ ⟨rfl,rfl⟩)|(go_at_call 72;refine(Ad _ _).mono ?_;rintro _ _ ⟨rfl,rfl⟩))
          refine(Aa HKG _).mono ?_
          rintro _ w32 ⟨rfl,hb⟩
          clear f0 c0_0 c0_1 c0_2 c0_3 c0_4 c0_5 c0_6 c0_7 c0_8 c0_9 c0_10 c0_11 c0_12 c0_13 c0_14 c0_15 c0_16 c0_17
          replace LL:=Ac ((Aa LL).on hb)
          clear hb
          obtain⟨f0,c0_0,c0_1,c0_2,c0_3,c0_4,c0_5,c0_6,c0_7,c0_8,c0_9,c0_10,c0_11,c0_12,c0_13,c0_14,c0_15,c0_16,c0_17⟩:=(Aa LL).one
          try dsimp only at f0 c0_0 c0_1 c0_2 c0_3 c0_4 c0_5 c0_6 c0_7 c0_8 c0_9 c0_10 c0_11 c0_12 c0_13 c0_14 c0_15 c0_16 c0_17
          cases kg
          ·go_wp2_with (first|(go_at_call 100;refine(Ae _ _).mono ?_;rintro _ _ ⟨rfl,rfl⟩)|(go_at_call 99;refine(Ab _ _).mono ?_;rintro _ _ ⟨rfl,rfl⟩)|(go_at_call 72;refine(Ad _ _).mono ?_;rintro _ _ ⟨rfl,rfl⟩))
           refine(Aa HKS _).mono ?_
           rintro _ w33 ⟨rfl,hb⟩
           clear f0 c0_0 c0_1 c0_2 c0_3 c0_4 c0_5 c0_6 c0_7 c0_8 c0_9 c0_10 c0_11 c0_12 c0_13 c0_14 c0_15 c0_16 c0_17
           replace LL:=Ac ((Aa LL).on hb)
           clear hb
           obtain⟨f0,c0_0,c0_1,c0_2,c0_3,c0_4,c0_5,c0_6,c0_7,c0_8,c0_9,c0_10,c0_11,c0_12,c0_13,c0_14,c0_15,c0_16,c0_17⟩:=(Aa LL).one
           try dsimp only at f0 c0_0 c0_1 c0_2 c0_3 c0_4 c0_5 c0_6 c0_7 c0_8 c0_9 c0_10 c0_11 c0_12 c0_13 c0_14 c0_15 c0_16 c0_17
           cases ks
           ·go_wp2_with (first|(go_at_call 100;refine(Ae _ _).mono ?_;rintro _ _ ⟨rfl,rfl⟩)|(go_at_call 99;refine(Ab _ _).mono ?_;rintro _ _ ⟨rfl,rfl⟩)|(go_at_call 72;refine(Ad _ _).mono ?_;rintro _ _ ⟨rfl,rfl⟩))
            go_ret
            exact⟨rfl,(Aa LL).below⟩
           ·go_wp2_with (first|(go_at_call 100;refine(Ae _ _).mono ?_;rintro _ _ ⟨rfl,rfl⟩)|(go_at_call 99;refine(Ab _ _).mono ?_;rintro _ _ ⟨rfl,rfl⟩)|(go_at_call 72;refine(Ad _ _).mono ?_;rintro _ _ ⟨rfl,rfl⟩))
            go_ret
            exact⟨rfl,(Aa LL).below⟩
          ·go_wp2_with (first|(go_at_call 100;refine(Ae _ _).mono ?_;rintro _ _ ⟨rfl,rfl⟩)|(go_at_call 99;refine(Ab _ _).mono ?_;rintro _ _ ⟨rfl,rfl⟩)|(go_at_call 72;refine(Ad _ _).mono ?_;rintro _ _ ⟨rfl,rfl⟩))
           go_ret
           exact⟨rfl,(Aa LL).below⟩
        ·go_wp2_with (first|(go_at_call 100;refine(Ae _ _).mono ?_;rintro _ _ ⟨rfl,rfl⟩)|(go_at_call 99;refine(Ab _ _).mono ?_;rintro _ _ ⟨rfl,rfl⟩)|(go_at_call 72;refine(Ad _ _).mono ?_;rintro _ _ ⟨rfl,rfl⟩))
         refine(Aa HKG _).mono ?_
         rintro _ w34 ⟨rfl,hb⟩
         clear f0 c0_0 c0_1 c0_2 c0_3 c0_4 c0_5 c0_6 c0_7 c0_8 c0_9 c0_10 c0_11 c0_12 c0_13 c0_14 c0_15 c0_16 c0_17
         replace LL:=Ac ((Aa LL).on hb)
         clear hb
         obtain⟨f0,c0_0,c0_1,c0_2,c0_3,c0_4,c0_5,c0_6,c0_7,c0_8,c0_9,c0_10,c0_11,c0_12,c0_13,c0_14,c0_15,c0_16,c0_17⟩:=(Aa LL).one
         try dsimp only at f0 c0_0 c0_1 c0_2 c0_3 c0_4 c0_5 c0_6 c0_7 c0_8 c0_9 c0_10 c0_11 c0_12 c0_13 c0_14 c0_15 c0_16 c0_17
         cases kg
         ·go_wp2_with (first|(go_at_call 100;refine(Ae _ _).mono ?_;rintro _ _ ⟨rfl,rfl⟩)|(go_at_call 99;refine(Ab _ _).mono ?_;rintro _ _ ⟨rfl,rfl⟩)|(go_at_call 72;refine(Ad _ _).mono ?_;rintro _ _ ⟨rfl,rfl⟩))
          refine(Aa HKS _).mono ?_
          rintro _ w35 ⟨rfl,hb⟩
          clear f0 c0_0 c0_1 c0_2 c0_3 c0_4 c0_5 c0_6 c0_7 c0_8 c0_9 c0_10 c0_11 c0_12 c0_13 c0_14 c0_15 c0_16 c0_17
          replace LL:=Ac ((Aa LL).on hb)
          clear hb
          obtain⟨f0,c0_0,c0_1,c0_2,c0_3,c0_4,c0_5,c0_6,c0_7,c0_8,c0_9,c0_10,c0_11,c0_12,c0_13,c0_14,c0_15,c0_16,c0_17⟩:=(Aa LL).one
          try dsimp only at f0 c0_0 c0_1 c0_2 c0_3 c0_4 c0_5 c0_6 c0_7 c0_8 c0_9 c0_10 c0_11 c0_12 c0_13 c0_14 c0_15 c0_16 c0_17
          cases ks
          ·go_wp2_with (first|(go_at_call 100;refine(Ae _ _).mono ?_;rintro _ _ ⟨rfl,rfl⟩)|(go_at_call 99;refine(Ab _ _).mono ?_;rintro _ _ ⟨rfl,rfl⟩)|(go_at_call 72;refine(Ad _ _).mono ?_;rintro _ _ ⟨rfl,rfl⟩))
           go_ret
           exact⟨rfl,(Aa LL).below⟩
          ·go_wp2_with (first|(go_at_call 100;refine(Ae _ _).mono ?_;rintro _ _ ⟨rfl,rfl⟩)|(go_at_call 99;refine(Ab _ _).mono ?_;rintro _ _ ⟨rfl,rfl⟩)|(go_at_call 72;refine(Ad _ _).mono ?_;rintro _ _ ⟨rfl,rfl⟩))
           go_ret
           exact⟨rfl,(Aa LL).below⟩
         ·go_wp2_with (first|(go_at_call 100;refine(Ae _ _).mono ?_;rintro _ _ ⟨rfl,rfl⟩)|(go_at_call 99;refine(Ab _ _).mono ?_;rintro _ _ ⟨rfl,rfl⟩)|(go_at_call 72;refine(Ad _ _).mono ?_;rintro _ _ ⟨rfl,rfl⟩))
          go_ret
          exact⟨rfl,(Aa LL).below⟩
    ·go_wp2_with (first|(go_at_call 100;refine(Ae _ _).mono ?_;rintro _ _ ⟨rfl,rfl⟩)|(go_at_call 99;refine(Ab _ _).mono ?_;rintro _ _ ⟨rfl,rfl⟩)|(go_at_call 72;refine(Ad _ _).mono ?_;rintro _ _ ⟨rfl,rfl⟩))
     refine(Aa HSS _).mono ?_
     rintro _ w36 ⟨rfl,hb⟩
     clear f0 c0_0 c0_1 c0_2 c0_3 c0_4 c0_5 c0_6 c0_7 c0_8 c0_9 c0_10 c0_11 c0_12 c0_13 c0_14 c0_15 c0_16 c0_17
     replace LL:=Ac ((Aa LL).on hb)
     clear hb
     obtain⟨f0,c0_0,c0_1,c0_2,c0_3,c0_4,c0_5,c0_6,c0_7,c0_8,c0_9,c0_10,c0_11,c0_12,c0_13,c0_14,c0_15,c0_16,c0_17⟩:=(Aa LL).one
     try dsimp only at f0 c0_0 c0_1 c0_2 c0_3 c0_4 c0_5 c0_6 c0_7 c0_8 c0_9 c0_10 c0_11 c0_12 c0_13 c0_14 c0_15 c0_16 c0_17
     cases ss
     ·go_wp2_with (first|(go_at_call 100;refine(Ae _ _).mono ?_;rintro _ _ ⟨rfl,rfl⟩)|(go_at_call 99;refine(Ab _ _).mono ?_;rintro _ _ ⟨rfl,rfl⟩)|(go_at_call 72;refine(Ad _ _).mono ?_;rintro _ _ ⟨rfl,rfl⟩))
      go_ret
      exact⟨rfl,(Aa LL).below⟩
     ·cases ta
      ·go_wp2_with (first|(go_at_call 100;refine(Ae _ _).mono ?_;rintro _ _ ⟨rfl,rfl⟩)|(go_at_call 99;refine(Ab _ _).mono ?_;rintro _ _ ⟨rfl,rfl⟩)|(go_at_call 72;refine(Ad _ _).mono ?_;rintro _ _ ⟨rfl,rfl⟩))
       go_ret
       exact⟨rfl,(Aa LL).below⟩
      ·cases te
       ·go_wp2_with (first|(go_at_call 100;refine(Ae _ _).mono ?_;rintro _ _ ⟨rfl,rfl⟩)|(go_at_call 99;refine(Ab _ _).mono ?_;rintro _ _ ⟨rfl,rfl⟩)|(go_at_call 72;refine(Ad _ _).mono ?_;rintro _ _ ⟨rfl,rfl⟩))
        go_ret
        exact⟨rfl,(Aa LL).below⟩
       ·cases tc
        ·go_wp2_with (first|(go_at_call 100;refine(Ae _ _).mono ?_;rintro _ _ ⟨rfl,rfl⟩)|(go_at_call 99;refine(Ab _ _).mono ?_;rintro _ _ ⟨rfl,rfl⟩)|(go_at_call 72;refine(Ad _ _).mono ?_;rintro _ _ ⟨rfl,rfl⟩))
         go_ret
         exact⟨rfl,(Aa LL).below⟩
        ·go_wp2_with (first|(go_at_call 100;refine(Ae _ _).mono ?_;rintro _ _ ⟨rfl,rfl⟩)|(go_at_call 99;refine(Ab _ _).mono ?_;rintro _ _ ⟨rfl,rfl⟩)|(go_at_call 72;refine(Ad _ _).mono ?_;rintro _ _ ⟨rfl,rfl⟩))
         refine(Aa HKV _).mono ?_
         rintro _ w37 ⟨rfl,hb⟩
         clear f0 c0_0 c0_1 c0_2 c0_3 c0_4 c0_5 c0_6 c0_7 c0_8 c0_9 c0_10 c0_11 c0_12 c0_13 c0_14 c0_15 c0_16 c0_17
         replace LL:=Ac ((Aa LL).on hb)
         clear hb
         obtain⟨f0,c0_0,c0_1,c0_2,c0_3,c0_4,c0_5,c0_6,c0_7,c0_8,c0_9,c0_10,c0_11,c0_12,c0_13,c0_14,c0_15,c0_16,c0_17⟩:=(Aa LL).one
         try dsimp only at f0 c0_0 c0_1 c0_2 c0_3 c0_4 c0_5 c0_6 c0_7 c0_8 c0_9 c0_10 c0_11 c0_12 c0_13 c0_14 c0_15 c0_16 c0_17
         cases kv
         ·cases qa
          ·go_wp2_with (first|(go_at_call 100;refine(Ae _ _).mono ?_;rintro _ _ ⟨rfl,rfl⟩)|(go_at_call 99;refine(Ab _ _).mono ?_;rintro _ _ ⟨rfl,rfl⟩)|(go_at_call 72;refine(Ad _ _).mono ?_;rintro _ _ ⟨rfl,rfl⟩))
           go_ret
           exact⟨rfl,(Aa LL).below⟩
          ·go_wp2_with (first|(go_at_call 100;refine(Ae _ _).mono ?_;rintro _ _ ⟨rfl,rfl⟩)|(go_at_call 99;refine(Ab _ _).mono ?_;rintro _ _ ⟨rfl,rfl⟩)|(go_at_call 72;refine(Ad _ _).mono ?_;rintro _ _ ⟨rfl,rfl⟩))
           refine(Aa HKG _).mono ?_
           rintro _ w38 ⟨rfl,hb⟩
           clear f0 c0_0 c0_1 c0_2 c0_3 c0_4 c0_5 c0_6 c0_7 c0_8 c0_9 c0_10 c0_11 c0_12 c0_13 c0_14 c0_15 c0_16 c0_17
           replace LL:=Ac ((Aa LL).on hb)
           clear hb
           obtain⟨f0,c0_0,c0_1,c0_2,c0_3,c0_4,c0_5,c0_6,c0_7,c0_8,c0_9,c0_10,c0_11,c0_12,c0_13,c0_14,c0_15,c0_16,c0_17⟩:=(Aa LL).one
           try dsimp only at f0 c0_0 c0_1 c0_2 c0_3 c0_4 c0_5 c0_6 c0_7 c0_8 c0_9 c0_10 c0_11 c0_12 c0_13 c0_14 c0_15 c0_16 c0_17
           cases kg
           ·go_wp2_with (first|(go_at_call 100;refine(Ae _ _).mono ?_;rintro _ _ ⟨rfl,rfl⟩)|(go_at_call 99;refine(Ab _ _).mono ?_;rintro _ _ ⟨rfl,rfl⟩)|(go_at_call 72;refine(Ad _ _).mono ?_;rintro _ _ ⟨rfl,rfl⟩))
            refine(Aa HKS _).mono ?_
            rintro _ w39 ⟨rfl,hb⟩
            clear f0 c0_0 c0_1 c0_2 c0_3 c0_4 c0_5 c0_6 c0_7 c0_8 c0_9 c0_10 c0_11 c0_12 c0_13 c0_14 c0_15 c0_16 c0_17
            replace LL:=Ac ((Aa LL).on hb)
            clear hb
            obtain⟨f0,c0_0,c0_1,c0_2,c0_3,c0_4,c0_5,c0_6,c0_7,c0_8,c0_9,c0_10,c0_11,c0_12,c0_13,c0_14,c0_15,c0_16,c0_17⟩:=(Aa LL).one
            try dsimp only at f0 c0_0 c0_1 c0_2 c0_3 c0_4 c0_5 c0_6 c0_7 c0_8 c0_9 c0_10 c0_11 c0_12 c0_13 c0_14 c0_15 c0_16 c0_17
            cases ks
            ·go_wp2_with (first|(go_at_call 100;refine(Ae _ _).mono ?_;rintro _ _ ⟨rfl,rfl⟩)|(go_at_call 99;refine(Ab _ _).mono ?_;rintro _ _ ⟨rfl,rfl⟩)|(go_at_call 72;refine(Ad _ _).mono ?_;rintro _ _ ⟨rfl,rfl⟩))
             go_ret
             exact⟨rfl,(Aa LL).below⟩
            ·go_wp2_with (first|(go_at_call 100;refine(Ae _ _).mono ?_;rintro _ _ ⟨rfl,rfl⟩)|(go_at_call 99;refine(Ab _ _).mono ?_;rintro _ _ ⟨rfl,rfl⟩)|(go_at_call 72;refine(Ad _ _).mono ?_;rintro _ _ ⟨rfl,rfl⟩))
             go_ret
             exact⟨rfl,(Aa LL).below⟩
           ·go_wp2_with (first|(go_at_call 100;refine(Ae _ _).mono ?_;rintro _ _ ⟨rfl,rfl⟩)|(go_at_call 99;refine(Ab _ _).mono ?_;rintro _ _ ⟨rfl,rfl⟩)|(go_at_call 72;refine(Ad _ _).mono ?_;rintro _ _ ⟨rfl,rfl⟩))
            go_ret
            exact⟨rfl,(Aa LL).below⟩
         ·go_wp2_with (first|(go_at_call 100;refine(Ae _ _).mono ?_;rintro _ _ ⟨rfl,rfl⟩)|(go_at_call 99;refine(Ab _ _).mono ?_;rintro _ _ ⟨rfl,rfl⟩)|(go_at_call 72;refine(Ad _ _).mono ?_;rintro _ _ ⟨rfl,rfl⟩))
          refine(Aa HKG _).mono ?_
          rintro _ w40 ⟨rfl,hb⟩
          clear f0 c0_0 c0_1 c0_2 c0_3 c0_4 c0_5 c0_6 c0_7 c0_8 c0_9 c0_10 c0_11 c0_12 c0_13 c0_14 c0_15 c0_16 c0_17
          replace LL:=Ac ((Aa LL).on hb)
          clear hb
          obtain⟨f0,c0_0,c0_1,c0_2,c0_3,c0_4,c0_5,c0_6,c0_7,c0_8,c0_9,c0_10,c0_11,c0_12,c0_13,c0_14,c0_15,c0_16,c0_17⟩:=(Aa LL).one
          try dsimp only at f0 c0_0 c0_1 c0_2 c0_3 c0_4 c0_5 c0_6 c0_7 c0_8 c0_9 c0_10 c0_11 c0_12 c0_13 c0_14 c0_15 c0_16 c0_17
          cases kg
          ·go_wp2_with (first|(go_at_call 100;refine(Ae _ _).mono ?_;rintro _ _ ⟨rfl,rfl⟩)|(go_at_call 99;refine(Ab _ _).mono ?_;rintro _ _ ⟨rfl,rfl⟩)|(go_at_call 72;refine(Ad _ _).mono ?_;rintro _ _ ⟨rfl,rfl⟩))
           refine(Aa HKS _).mono ?_
           rintro _ w41 ⟨rfl,hb⟩
           clear f0 c0_0 c0_1 c0_2 c0_3 c0_4 c0_5 c0_6 c0_7 c0_8 c0_9 c0_10 c0_11 c0_12 c0_13 c0_14 c0_15 c0_16 c0_17
           replace LL:=Ac ((Aa LL).on hb)
           clear hb
           obtain⟨f0,c0_0,c0_1,c0_2,c0_3,c0_4,c0_5,c0_6,c0_7,c0_8,c0_9,c0_10,c0_11,c0_12,c0_13,c0_14,c0_15,c0_16,c0_17⟩:=(Aa LL).one
           try dsimp only at f0 c0_0 c0_1 c0_2 c0_3 c0_4 c0_5 c0_6 c0_7 c0_8 c0_9 c0_10 c0_11 c0_12 c0_13 c0_14 c0_15 c0_16 c0_17
           cases ks
           ·go_wp2_with (first|(go_at_call 100;refine(Ae _ _).mono ?_;rintro _ _ ⟨rfl,rfl⟩)|(go_at_call 99;refine(Ab _ _).mono ?_;rintro _ _ ⟨rfl,rfl⟩)|(go_at_call 72;refine(Ad _ _).mono ?_;rintro _ _ ⟨rfl,rfl⟩))
            go_ret
            exact⟨rfl,(Aa LL).below⟩
           ·go_wp2_with (first|(go_at_call 100;refine(Ae _ _).mono ?_;rintro _ _ ⟨rfl,rfl⟩)|(go_at_call 99;refine(Ab _ _).mono ?_;rintro _ _ ⟨rfl,rfl⟩)|(go_at_call 72;refine(Ad _ _).mono ?_;rintro _ _ ⟨rfl,rfl⟩))
            go_ret
            exact⟨rfl,(Aa LL).below⟩
          ·go_wp2_with (first|(go_at_call 100;refine(Ae _ _).mono ?_;rintro _ _ ⟨rfl,rfl⟩)|(go_at_call 99;refine(Ab _ _).mono ?_;rintro _ _ ⟨rfl,rfl⟩)|(go_at_call 72;refine(Ad _ _).mono ?_;rintro _ _ ⟨rfl,rfl⟩))
           go_ret
           exact⟨rfl,(Aa LL).below⟩
   ·go_wp2_with (first|(go_at_call 100;refine(Ae _ _).mono ?_;rintro _ _ ⟨rfl,rfl⟩)|(go_at_call 99;refine(Ab _ _).mono ?_;rintro _ _ ⟨rfl,rfl⟩)|(go_at_call 72;refine(Ad _ _).mono ?_;rintro _ _ ⟨rfl,rfl⟩))
    refine(Aa HSG _).mono ?_
    rintro _ w42 ⟨rfl,hb⟩
    clear f0 c0_0 c0_1 c0_2 c0_3 c0_4 c0_5 c0_6 c0_7 c0_8 c0_9 c0_10 c0_11 c0_12 c0_13 c0_14 c0_15 c0_16 c0_17
    replace LL:=Ac ((Aa LL).on hb)
    clear hb
    obtain⟨f0,c0_0,c0_1,c0_2,c0_3,c0_4,c0_5,c0_6,c0_7,c0_8,c0_9,c0_10,c0_11,c0_12,c0_13,c0_14,c0_15,c0_16,c0_17⟩:=(Aa LL).one
    try dsimp only at f0 c0_0 c0_1 c0_2 c0_3 c0_4 c0_5 c0_6 c0_7 c0_8 c0_9 c0_10 c0_11 c0_12 c0_13 c0_14 c0_15 c0_16 c0_17
    cases sg
    ·go_wp2_with (first|(go_at_call 100;refine(Ae _ _).mono ?_;rintro _ _ ⟨rfl,rfl⟩)|(go_at_call 99;refine(Ab _ _).mono ?_;rintro _ _ ⟨rfl,rfl⟩)|(go_at_call 72;refine(Ad _ _).mono ?_;rintro _ _ ⟨rfl,rfl⟩))
     go_ret
     exact⟨rfl,(Aa LL).below⟩
    ·go_wp2_with (first|(go_at_call 100;refine(Ae _ _).mono ?_;rintro _ _ ⟨rfl,rfl⟩)|(go_at_call 99;refine(Ab _ _).mono ?_;rintro _ _ ⟨rfl,rfl⟩)|(go_at_call 72;refine(Ad _ _).mono ?_;rintro _ _ ⟨rfl,rfl⟩))
     refine(Aa HNS _).mono ?_
     rintro _ w43 ⟨rfl,hb⟩
     clear f0 c0_0 c0_1 c0_2 c0_3 c0_4 c0_5 c0_6 c0_7 c0_8 c0_9 c0_10 c0_11 c0_12 c0_13 c0_14 c0_15 c0_16 c0_17
     replace LL:=Ac ((Aa LL).on hb)
     clear hb
     obtain⟨f0,c0_0,c0_1,c0_2,c0_3,c0_4,c0_5,c0_6,c0_7,c0_8,c0_9,c0_10,c0_11,c0_12,c0_13,c0_14,c0_15,c0_16,c0_17⟩:=(Aa LL).one
     try dsimp only at f0 c0_0 c0_1 c0_2 c0_3 c0_4 c0_5 c0_6 c0_7 c0_8 c0_9 c0_10 c0_11 c0_12 c0_13 c0_14 c0_15 c0_16 c0_17
     cases ts
     ·cases ta
      ·go_wp2_with (first|(go_at_call 100;refine(Ae _ _).mono ?_;rintro _ _ ⟨rfl,rfl⟩)|(go_at_call 99;refine(Ab _ _).mono ?_;rintro _ _ ⟨rfl,rfl⟩)|(go_at_call 72;refine(Ad _ _).mono ?_;rintro _ _ ⟨rfl,rfl⟩))
       go_ret
       exact⟨rfl,(Aa LL).below⟩
      ·cases te
       ·go_wp2_with (first|(go_at_call 100;refine(Ae _ _).mono ?_;rintro _ _ ⟨rfl,rfl⟩)|(go_at_call 99;refine(Ab _ _).mono ?_;rintro _ _ ⟨rfl,rfl⟩)|(go_at_call 72;refine(Ad _ _).mono ?_;rintro _ _ ⟨rfl,rfl⟩))
        go_ret
        exact⟨rfl,(Aa LL).below⟩
       ·cases tc
        ·go_wp2_with (first|(go_at_call 100;refine(Ae _ _).mono ?_;rintro _ _ ⟨rfl,rfl⟩)|(go_at_call 99;refine(Ab _ _).mono ?_;rintro _ _ ⟨rfl,rfl⟩)|(go_at_call 72;refine(Ad _ _).mono ?_;rintro _ _ ⟨rfl,rfl⟩))
         go_ret
         exact⟨rfl,(Aa LL).below⟩
        ·go_wp2_with (first|(go_at_call 100;refine(Ae _ _).mono ?_;rintro _ _ ⟨rfl,rfl⟩)|(go_at_call 99;refine(Ab _ _).mono ?_;rintro _ _ ⟨rfl,rfl⟩)|(go_at_call 72;refine(Ad _ _).mono ?_;rintro _ _ ⟨rfl,rfl⟩))
         refine(Aa HKV _).mono ?_
         rintro _ w44 ⟨rfl,hb⟩
         clear f0 c0_0 c0_1 c0_2 c0_3 c0_4 c0_5 c0_6 c0_7 c0_8 c0_9 c0_10 c0_11 c0_12 c0_13 c0_14 c0_15 c0_16 c0_17
         replace LL:=Ac ((Aa LL).on hb)
         clear hb
         obtain⟨f0,c0_0,c0_1,c0_2,c0_3,c0_4,c0_5,c0_6,c0_7,c0_8,c0_9,c0_10,c0_11,c0_12,c0_13,c0_14,c0_15,c0_16,c0_17⟩:=(Aa LL).one
         try dsimp only at f0 c0_0 c0_1 c0_2 c0_3 c0_4 c0_5 c0_6 c0_7 c0_8 c0_9 c0_10 c0_11 c0_12 c0_13 c0_14 c0_15 c0_16 c0_17
         cases kv
         ·cases qa
          ·go_wp2_with (first|(go_at_call 100;refine(Ae _ _).mono ?_;rintro _ _ ⟨rfl,rfl⟩)|(go_at_call 99;refine(Ab _ _).mono ?_;rintro _ _ ⟨rfl,rfl⟩)|(go_at_call 72;refine(Ad _ _).mono ?_;rintro _ _ ⟨rfl,rfl⟩))
           go_ret
           exact⟨rfl,(Aa LL).below⟩
          ·go_wp2_with (first|(go_at_call 100;refine(Ae _ _).mono ?_;rintro _ _ ⟨rfl,rfl⟩)|(go_at_call 99;refine(Ab _ _).mono ?_;rintro _ _ ⟨rfl,rfl⟩)|(go_at_call 72;refine(Ad _ _).mono ?_;rintro _ _ ⟨rfl,rfl⟩))
           refine(Aa HKG _).mono ?_
           rintro _ w45 ⟨rfl,hb⟩
           clear f0 c0_0 c0_1 c0_2 c0_3 c0_4 c0_5 c0_6 c0_7 c0_8 c0_9 c0_10 c0_11 c0_12 c0_13 c0_14 c0_15 c0_16 c0_17
           replace LL:=Ac ((Aa LL).on hb)
           clear hb
           obtain⟨f0,c0_0,c0_1,c0_2,c0_3,c0_4,c0_5,c0_6,c0_7,c0_8,c0_9,c0_10,c0_11,c0_12,c0_13,c0_14,c0_15,c0_16,c0_17⟩:=(Aa LL).one
           try dsimp only at f0 c0_0 c0_1 c0_2 c0_3 c0_4 c0_5 c0_6 c0_7 c0_8 c0_9 c0_10 c0_11 c0_12 c0_13 c0_14 c0_15 c0_16 c0_17
           cases kg
           ·go_wp2_with (first|(go_at_call 100;refine(Ae _ _).mono ?_;rintro _ _ ⟨rfl,rfl⟩)|(go_at_call 99;refine(Ab _ _).mono ?_;rintro _ _ ⟨rfl,rfl⟩)|(go_at_call 72;refine(Ad _ _).mono ?_;rintro _ _ ⟨rfl,rfl⟩))
            refine(Aa HKS _).mono ?_
            rintro _ w46 ⟨rfl,hb⟩
            clear f0 c0_0 c0_1 c0_2 c0_3 c0_4 c0_5 c0_6 c0_7 c0_8 c0_9 c0_10 c0_11 c0_12 c0_13 c0_14 c0_15 c0_16 c0_17
            replace LL:=Ac ((Aa LL).on hb)
            clear hb
            obtain⟨f0,c0_0,c0_1,c0_2,c0_3,c0_4,c0_5,c0_6,c0_7,c0_8,c0_9,c0_10,c0_11,c0_12,c0_13,c0_14,c0_15,c0_16,c0_17⟩:=(Aa LL).one
            try dsimp only at f0 c0_0 c0_1 c0_2 c0_3 c0_4 c0_5 c0_6 c0_7 c0_8 c0_9 c0_10 c0_11 c0_12 c0_13 c0_14 c0_15 c0_16 c0_17
            cases ks
            ·go_wp2_with (first|(go_at_call 100;refine(Ae _ _).mono ?_;rintro _ _ ⟨rfl,rfl⟩)|(go_at_call 99;refine(Ab _ _).mono ?_;rintro _ _ ⟨rfl,rfl⟩)|(go_at_call 72;refine(Ad _ _).mono ?_;rintro _ _ ⟨rfl,rfl⟩))
             go_ret
             exact⟨rfl,(Aa LL).below⟩
            ·go_wp2_with (first|(go_at_call 100;refine(Ae _ _).mono ?_;rintro _ _ ⟨rfl,rfl⟩)|(go_at_call 99;refine(Ab _ _).mono ?_;rintro _ _ ⟨rfl,rfl⟩)|(go_at_call 72;refine(Ad _ _).mono ?_;rintro _ _ ⟨rfl,rfl⟩))
             go_ret
             exact⟨rfl,(Aa LL).below⟩
           ·go_wp2_with (first|(go_at_call 100;refine(Ae _ _).mono ?_;rintro _ _ ⟨rfl,rfl⟩)|(go_at_call 99;refine(Ab _ _).mono ?_;rintro _ _ ⟨rfl,rfl⟩)|(go_at_call 72;refine(Ad _ _).mono ?_;rintro _ _ ⟨rfl,rfl⟩))
            go_ret
            exact⟨rfl,(Aa LL).below⟩
         ·go_wp2_with (first|(go_at_call 100;refine(Ae _ _).mono ?_;rintro _ _ ⟨rfl,rfl⟩)|(go_at_call 99;refine(Ab _ _).mono ?_;rintro _ _ ⟨rfl,rfl⟩)|(go_at_call 72;refine(Ad _ _).mono ?_;rintro _ _ ⟨rfl,rfl⟩))
          refine(Aa HKG _).mono ?_
          rintro _ w47 ⟨rfl,hb⟩
          clear f0 c0_0 c0_1 c0_2 c0_3 c0_4 c0_5 c0_6 c0_7 c0_8 c0_9 c0_10 c0_11 c0_12 c0_13 c0_14 c0_15 c0_16 c0_17
          replace LL:=Ac ((Aa LL).on hb)
          clear hb
          obtain⟨f0,c0_0,c0_1,c0_2,c0_3,c0_4,c0_5,c0_6,c0_7,c0_8,c0_9,c0_10,c0_11,c0_12,c0_13,c0_14,c0_15,c0_16,c0_17⟩:=(Aa LL).one
          try dsimp only at f0 c0_0 c0_1 c0_2 c0_3 c0_4 c0_5 c0_6 c0_7 c0_8 c0_9 c0_10 c0_11 c0_12 c0_13 c0_14 c0_15 c0_16 c0_17
          cases kg
          ·go_wp2_with (first|(go_at_call 100;refine(Ae _ _).mono ?_;rintro _ _ ⟨rfl,rfl⟩)|(go_at_call 99;refine(Ab _ _).mono ?_;rintro _ _ ⟨rfl,rfl⟩)|(go_at_call 72;refine(Ad _ _).mono ?_;rintro _ _ ⟨rfl,rfl⟩))
           refine(Aa HKS _).mono ?_
           rintro _ w48 ⟨rfl,hb⟩
           clear f0 c0_0 c0_1 c0_2 c0_3 c0_4 c0_5 c0_6 c0_7 c0_8 c0_9 c0_10 c0_11 c0_12 c0_13 c0_14 c0_15 c0_16 c0_17
           replace LL:=Ac ((Aa LL).on hb)
           clear hb
           obtain⟨f0,c0_0,c0_1,c0_2,c0_3,c0_4,c0_5,c0_6,c0_7,c0_8,c0_9,c0_10,c0_11,c0_12,c0_13,c0_14,c0_15,c0_16,c0_17⟩:=(Aa LL).one
           try dsimp only at f0 c0_0 c0_1 c0_2 c0_3 c0_4 c0_5 c0_6 c0_7 c0_8 c0_9 c0_10 c0_11 c0_12 c0_13 c0_14 c0_15 c0_16 c0_17
           cases ks
           ·go_wp2_with (first|(go_at_call 100;refine(Ae _ _).mono ?_;rintro _ _ ⟨rfl,rfl⟩)|(go_at_call 99;refine(Ab _ _).mono ?_;rintro _ _ ⟨rfl,rfl⟩)|(go_at_call 72;refine(Ad _ _).mono ?_;rintro _ _ ⟨rfl,rfl⟩))
            go_ret
            exact⟨rfl,(Aa LL).below⟩
           ·go_wp2_with (first|(go_at_call 100;refine(Ae _ _).mono ?_;rintro _ _ ⟨rfl,rfl⟩)|(go_at_call 99;refine(Ab _ _).mono ?_;rintro _ _ ⟨rfl,rfl⟩)|(go_at_call 72;refine(Ad _ _).mono ?_;rintro _ _ ⟨rfl,rfl⟩))
            go_ret
            exact⟨rfl,(Aa LL).below⟩
          ·go_wp2_with (first|(go_at_call 100;refine(Ae _ _).mono ?_;rintro _ _ ⟨rfl,rfl⟩)|(go_at_call 99;refine(Ab _ _).mono ?_;rintro _ _ ⟨rfl,rfl⟩)|(go_at_call 72;refine(Ad _ _).mono ?_;rintro _ _ ⟨rfl,rfl⟩))
           go_ret
           exact⟨rfl,(Aa LL).below⟩
     ·go_wp2_with (first|(go_at_call 100;refine(Ae _ _).mono ?_;rintro _ _ ⟨rfl,rfl⟩)|(go_at_call 99;refine(Ab _ _).mono ?_;rintro _ _ ⟨rfl,rfl⟩)|(go_at_call 72;refine(Ad _ _).mono ?_;rintro _ _ ⟨rfl,rfl⟩))
      refine(Aa HSS _).mono ?_
      rintro _ w49 ⟨rfl,hb⟩
      clear f0 c0_0 c0_1 c0_2 c0_3 c0_4 c0_5 c0_6 c0_7 c0_8 c0_9 c0_10 c0_11 c0_12 c0_13 c0_14 c0_15 c0_16 c0_17
      replace LL:=Ac ((Aa LL).on hb)
      clear hb
      obtain⟨f0,c0_0,c0_1,c0_2,c0_3,c0_4,c0_5,c0_6,c0_7,c0_8,c0_9,c0_10,c0_11,c0_12,c0_13,c0_14,c0_15,c0_16,c0_17⟩:=(Aa LL).one
      try dsimp only at f0 c0_0 c0_1 c0_2 c0_3 c0_4 c0_5 c0_6 c0_7 c0_8 c0_9 c0_10 c0_11 c0_12 c0_13 c0_14 c0_15 c0_16 c0_17
      cases ss
      ·go_wp2_with (first|(go_at_call 100;refine(Ae _ _).mono ?_;rintro _ _ ⟨rfl,rfl⟩)|(go_at_call 99;refine(Ab _ _).mono ?_;rintro _ _ ⟨rfl,rfl⟩)|(go_at_call 72;refine(Ad _ _).mono ?_;rintro _ _ ⟨rfl,rfl⟩))
       go_ret
       exact⟨rfl,(Aa LL).below⟩
      ·cases ta
       ·go_wp2_with (first|(go_at_call 100;refine(Ae _ _).mono ?_;rintro _ _ ⟨rfl,rfl⟩)|(go_at_call 99;refine(Ab _ _).mono ?_;rintro _ _ ⟨rfl,rfl⟩)|(go_at_call 72;refine(Ad _ _).mono ?_;rintro _ _ ⟨rfl,rfl⟩))
        go_ret
        exact⟨rfl,(Aa LL).below⟩
       ·cases te
        ·go_wp2_with (first|(go_at_call 100;refine(Ae _ _).mono ?_;rintro _ _ ⟨rfl,rfl⟩)|(go_at_call 99;refine(Ab _ _).mono ?_;rintro _ _ ⟨rfl,rfl⟩)|(go_at_call 72;refine(Ad _ _).mono ?_;rintro _ _ ⟨rfl,rfl⟩))
         go_ret
         exact⟨rfl,(Aa LL).below⟩
        ·cases tc
         ·go_wp2_with (first|(go_at_call 100;refine(Ae _ _).mono ?_;rintro _ _ ⟨rfl,rfl⟩)|(go_at_call 99;refine(Ab _ _).mono ?_;rintro _ _ ⟨rfl,rfl⟩)|(go_at_call 72;refine(Ad _ _).mono ?_;rintro _ _ ⟨rfl,rfl⟩))
          go_ret
          exact⟨rfl,(Aa LL).below⟩
         ·go_wp2_with (first|(go_at_call 100;refine(Ae _ _).mono ?_;rintro _ _ ⟨rfl,rfl⟩)|(go_at_call 99;refine(Ab _ _).mono ?_;rintro _ _ ⟨rfl,rfl⟩)|(go_at_call 72;refine(Ad _ _).mono ?_;rintro _ _ ⟨rfl,rfl⟩))
          refine(Aa HKV _).mono ?_
          rintro _ w50 ⟨rfl,hb⟩
          clear f0 c0_0 c0_1 c0_2 c0_3 c0_4 c0_5 c0_6 c0_7 c0_8 c0_9 c0_10 c0_11 c0_12 c0_13 c0_14 c0_15 c0_16 c0_17
          replace LL:=Ac ((Aa LL).on hb)
          clear hb
          obtain⟨f0,c0_0,c0_1,c0_2,c0_3,c0_4,c0_5,c0_6,c0_7,c0_8,c0_9,c0_10,c0_11,c0_12,c0_13,c0_14,c0_15,c0_16,c0_17⟩:=(Aa LL).one
          try dsimp only at f0 c0_0 c0_1 c0_2 c0_3 c0_4 c0_5 c0_6 c0_7 c0_8 c0_9 c0_10 c0_11 c0_12 c0_13 c0_14 c0_15 c0_16 c0_17
          cases kv
          ·cases qa
           ·go_wp2_with (first|(go_at_call 100;refine(Ae _ _).mono ?_;rintro _ _ ⟨rfl,rfl⟩)|(go_at_call 99;refine(Ab _ _).mono ?_;rintro _ _ ⟨rfl,rfl⟩)|(go_at_call 72;refine(Ad _ _).mono ?_;rintro _ _ ⟨rfl,rfl⟩))
            go_ret
            exact⟨rfl,(Aa LL).below⟩
           ·go_wp2_with (first|(go_at_call 100;refine(Ae _ _).mono ?_;rintro _ _ ⟨rfl,rfl⟩)|(go_at_call 99;refine(Ab _ _).mono ?_;rintro _ _ ⟨rfl,rfl⟩)|(go_at_call 72;refine(Ad _ _).mono ?_;rintro _ _ ⟨rfl,rfl⟩))
            refine(Aa HKG _).mono ?_
            rintro _ w51 ⟨rfl,hb⟩
            clear f0 c0_0 c0_1 c0_2 c0_3 c0_4 c0_5 c0_6 c0_7 c0_8 c0_9 c0_10 c0_11 c0_12 c0_13 c0_14 c0_15 c0_16 c0_17
            replace LL:=Ac ((Aa LL).on hb)
            clear hb
            obtain⟨f0,c0_0,c0_1,c0_2,c0_3,c0_4,c0_5,c0_6,c0_7,c0_8,c0_9,c0_10,c0_11,c0_12,c0_13,c0_14,c0_15,c0_16,c0_17⟩:=(Aa LL).one
            try dsimp only at f0 c0_0 c0_1 c0_2 c0_3 c0_4 c0_5 c0_6 c0_7 c0_8 c0_9 c0_10 c0_11 c0_12 c0_13 c0_14 c0_15 c0_16 c0_17
            cases kg
            ·go_wp2_with (first|(go_at_call 100;refine(Ae _ _).mono ?_;rintro _ _ ⟨rfl,rfl⟩)|(go_at_call 99;refine(Ab _ _).mono ?_;rintro _ _ ⟨rfl,rfl⟩)|(go_at_call 72;refine(Ad _ _).mono ?_;rintro _ _ ⟨rfl,rfl⟩))
             refine(Aa HKS _).mono ?_
             rintro _ w52 ⟨rfl,hb⟩
             clear f0 c0_0 c0_1 c0_2 c0_3 c0_4 c0_5 c0_6 c0_7 c0_8 c0_9 c0_10 c0_11 c0_12 c0_13 c0_14 c0_15 c0_16 c0_17
             replace LL:=Ac ((Aa LL).on hb)
             clear hb
             obtain⟨f0,c0_0,c0_1,c0_2,c0_3,c0_4,c0_5,c0_6,c0_7,c0_8,c0_9,c0_10,c0_11,c0_12,c0_13,c0_14,c0_15,c0_16,c0_17⟩:=(Aa LL).one
             try dsimp only at f0 c0_0 c0_1 c0_2 c0_3 c0_4 c0_5 c0_6 c0_7 c0_8 c0_9 c0_10 c0_11 c0_12 c0_13 c0_14 c0_15 c0_16 c0_17
             cases ks
             ·go_wp2_with (first|(go_at_call 100;refine(Ae _ _).mono ?_;rintro _ _ ⟨rfl,rfl⟩)|(go_at_call 99;refine(Ab _ _).mono ?_;rintro _ _ ⟨rfl,rfl⟩)|(go_at_call 72;refine(Ad _ _).mono ?_;rintro _ _ ⟨rfl,rfl⟩))
              go_ret
              exact⟨rfl,(Aa LL).below⟩
             ·go_wp2_with (first|(go_at_call 100;refine(Ae _ _).mono ?_;rintro _ _ ⟨rfl,rfl⟩)|(go_at_call 99;refine(Ab _ _).mono ?_;rintro _ _ ⟨rfl,rfl⟩)|(go_at_call 72;refine(Ad _ _).mono ?_;rintro _ _ ⟨rfl,rfl⟩))
              go_ret
              exact⟨rfl,(Aa LL).below⟩
            ·go_wp2_with (first|(go_at_call 100;refine(Ae _ _).mono ?_;rintro _ _ ⟨rfl,rfl⟩)|(go_at_call 99;refine(Ab _ _).mono ?_;rintro _ _ ⟨rfl,rfl⟩)|(go_at_call 72;refine(Ad _ _).mono ?_;rintro _ _ ⟨rfl,rfl⟩))
             go_ret
             exact⟨rfl,(Aa LL).below⟩
          ·go_wp2_with (first|(go_at_call 100;refine(Ae _ _).mono ?_;rintro _ _ ⟨rfl,rfl⟩)|(go_at_call 99;refine(Ab _ _).mono ?_;rintro _ _ ⟨rfl,rfl⟩)|(go_at_call 72;refine(Ad _ _).mono ?_;rintro _ _ ⟨rfl,rfl⟩))
           refine(Aa HKG _).mono ?_
           rintro _ w53 ⟨rfl,hb⟩
           clear f0 c0_0 c0_1 c0_2 c0_3 c0_4 c0_5 c0_6 c0_7 c0_8 c0_9 c0_10 c0_11 c0_12 c0_13 c0_14 c0_15 c0_16 c0_17
           replace LL:=Ac ((Aa LL).on hb)
           clear hb
           obtain⟨f0,c0_0,c0_1,c0_2,c0_3,c0_4,c0_5,c0_6,c0_7,c0_8,c0_9,c0_10,c0_11,c0_12,c0_13,c0_14,c0_15,c0_16,c0_17⟩:=(Aa LL).one
           try dsimp only at f0 c0_0 c0_1 c0_2 c0_3 c0_4 c0_5 c0_6 c0_7 c0_8 c0_9 c0_10 c0_11 c0_12 c0_13 c0_14 c0_15 c0_16 c0_17
           cases kg
           ·go_wp2_with (first|(go_at_call 100;refine(Ae _ _).mono ?_;rintro _ _ ⟨rfl,rfl⟩)|(go_at_call 99;refine(Ab _ _).mono ?_;rintro _ _ ⟨rfl,rfl⟩)|(go_at_call 72;refine(Ad _ _).mono ?_;rintro _ _ ⟨rfl,rfl⟩))
            refine(Aa HKS _).mono ?_
            rintro _ w54 ⟨rfl,hb⟩
            clear f0 c0_0 c0_1 c0_2 c0_3 c0_4 c0_5 c0_6 c0_7 c0_8 c0_9 c0_10 c0_11 c0_12 c0_13 c0_14 c0_15 c0_16 c0_17
            replace LL:=Ac ((Aa LL).on hb)
            clear hb
            obtain⟨f0,c0_0,c0_1,c0_2,c0_3,c0_4,c0_5,c0_6,c0_7,c0_8,c0_9,c0_10,c0_11,c0_12,c0_13,c0_14,c0_15,c0_16,c0_17⟩:=(Aa LL).one
            try dsimp only at f0 c0_0 c0_1 c0_2 c0_3 c0_4 c0_5 c0_6 c0_7 c0_8 c0_9 c0_10 c0_11 c0_12 c0_13 c0_14 c0_15 c0_16 c0_17
            cases ks
            ·go_wp2_with (first|(go_at_call 100;refine(Ae _ _).mono ?_;rintro _ _ ⟨rfl,rfl⟩)|(go_at_call 99;refine(Ab _ _).mono ?_;rintro _ _ ⟨rfl,rfl⟩)|(go_at_call 72;refine(Ad _ _).mono ?_;rintro _ _ ⟨rfl,rfl⟩))
             go_ret
             exact⟨rfl,(Aa LL).below⟩
            ·go_wp2_with (first|(go_at_call 100;refine(Ae _ _).mono ?_;rintro _ _ ⟨rfl,rfl⟩)|(go_at_call 99;refine(Ab _ _).mono ?_;rintro _ _ ⟨rfl,rfl⟩)|(go_at_call 72;refine(Ad _ _).mono ?_;rintro _ _ ⟨rfl,rfl⟩))
             go_ret
             exact⟨rfl,(Aa LL).below⟩
           ·go_wp2_with (first|(go_at_call 100;refine(Ae _ _).mono ?_;rintro _ _ ⟨rfl,rfl⟩)|(go_at_call 99;refine(Ab _ _).mono ?_;rintro _ _ ⟨rfl,rfl⟩)|(go_at_call 72;refine(Ad _ _).mono ?_;rintro _ _ ⟨rfl,rfl⟩))
            go_ret
            exact⟨rfl,(Aa LL).below⟩
