import Derived.Test.YtieahhciibdnaaaGreatDoorQr
set_option linter.all false
namespace Go.Proofs.YtieahhciibdnaaaGreatDoor
set_option maxRecDepth 100000
set_option maxHeartbeats 0
section
open Go Go.Proofs Go.RowKit FM Tryz
def orT (t a:Int):Int:=if t !=0 then t else a
def Ni (d:DD):DD:=if Df d==3 then ⟨d.v,orV d.g Eh,orV d.s Eh,d.w,orT d.e 1,orT d.c 1⟩ else ⟨orV d.v Eh,d.g,d.s,orT d.w 1,orT d.e 1,orT d.c 1⟩
theorem Yu (d:DD) (hs:d.v.s.size<=1048576) (w:World):Calls prog 111 #[d.agg] w fun e w'=>e= .returned d.agg/\Below w.heap.size w w':=by
 have HC:=Ab (fun w=>Gq d.v.s w hs)
 have LL:=Ab (Lie.new2 w (.D d) (.D Ar))
 have hq0:=Gc d
 rw[hq0]
 clear hq0
 go_enter func111,ntmps111
 go_wp2_with (first|go_skip|((with_reducible apply Av);(case ho|hw|hx=>rfl);(case hc=>first|exact(Aa LL).one|exact(Aa LL).two);simp only[nn])|((with_reducible apply Di 1);(case ho=>rfl);(case hL=>exact Aa LL);(case hi|hx|hw|hy=>rfl);(intro X LX;simp only[nn];replace LL:=Ab LX;clear LX))|((with_reducible apply store9 0);(case ho=>rfl);(case hL=>exact Aa LL);(case hi|hx|hw|hy=>rfl);(intro X LX;simp only[nn];replace LL:=Ab LX;clear LX)))
 refine(Aa HC _).mono ?_
 rintro _ w1 ⟨rfl,hb⟩
 replace LL:=Ab ((Aa LL).on hb)
 clear hb
 go_wp2_with (first|go_skip|((with_reducible apply Av);(case ho|hw|hx=>rfl);(case hc=>first|exact(Aa LL).one|exact(Aa LL).two);simp only[nn])|((with_reducible apply Di 1);(case ho=>rfl);(case hL=>exact Aa LL);(case hi|hx|hw|hy=>rfl);(intro X LX;simp only[nn];replace LL:=Ab LX;clear LX))|((with_reducible apply store9 0);(case ho=>rfl);(case hL=>exact Aa LL);(case hi|hx|hw|hy=>rfl);(intro X LX;simp only[nn];replace LL:=Ab LX;clear LX)))
 refine Zbb rfl rfl rfl (Aa LL).two ?_
 exact⟨rfl,(Aa LL).below⟩
theorem Pn (t a:Int) (w:World):Calls prog 129 #[.int .i64 t, .int .i64 a] w fun e w'=>e= .returned (.int .i64 (orT t a))/\w'=w:=Zdx t a w
theorem Lie.putv {w W:World} {d:DD} {l:List PB} (h:Lie w W (.D d::l)) (u:VV):Lie w (W.setCells w.heap.size 0 u.cs) (.D {d with v:=u}::l):=
 Lie.put (i:=0) (o:=0) (vs:=u.cs) (p:= .D {d with v:=u}) (q:= .D d) h rfl (fun hq=>Lies.setv hq)
theorem Lie.putg {w W:World} {d:DD} {l:List PB} (h:Lie w W (.D d::l)) (u:VV):Lie w (W.setCells w.heap.size 5 u.cs) (.D {d with g:=u}::l):=
 Lie.put (i:=0) (o:=5) (vs:=u.cs) (p:= .D {d with g:=u}) (q:= .D d) h rfl (fun hq=>Lies.setg hq)
theorem Lie.puts {w W:World} {d:DD} {l:List PB} (h:Lie w W (.D d::l)) (u:VV):Lie w (W.setCells w.heap.size 10 u.cs) (.D {d with s:=u}::l):=
 Lie.put (i:=0) (o:=10) (vs:=u.cs) (p:= .D {d with s:=u}) (q:= .D d) h rfl (fun hq=>Lies.sets hq)
attribute [local go_sem] Ds
theorem Ye (d:DD) (hd:FD d) (w:World):Calls prog 112 #[d.agg] w fun e w'=>e= .returned (Ni d).agg/\Below w.heap.size w w':=by
 have HB:=Ab (Da d hd)
 have HU:=Ab (Oi)
 have HV:=Ab (Jc d.v Eh hd.1)
 have HG:=Ab (Jc d.g Eh hd.2.1)
 have HS:=Ab (Jc d.s Eh hd.2.2)
 clear hd
 have LL:=Ab (Lie.new2 w (.D d) (.D Ar))
 unfold Ni
 generalize Df d=sh at *
 unfold VV.agg at HU HV HG HS
 dsimp only at HU
 have hq0:=Gc d
 rw[hq0]
 clear hq0
 by_cases h3:sh=3
 ·subst h3
  go_enter func112,ntmps112
  go_wp2_with (first|go_skip|((with_reducible apply Av);(case ho|hw|hx=>rfl);(case hc=>first|exact(Aa LL).one|exact(Aa LL).two);simp only[nn])|(go_at_call 119;refine(Ah _ _).mono ?_;rintro _ _ ⟨rfl,rfl⟩)|(go_at_call 118;refine(Ac _ _).mono ?_;rintro _ _ ⟨rfl,rfl⟩))
  refine(Aa HB _).mono ?_
  rintro _ w1 ⟨rfl,hb⟩
  replace LL:=Ab ((Aa LL).on hb)
  clear hb
  go_wp2_with fail
  obtain⟨f0,c0,c1,c2,c3,c4,c5,c6,c7,c8,c9,c10,c11,c12,c13,c14,c15,c16,c17⟩:=(Aa LL).one
  try dsimp only at f0 c0 c1 c2 c3 c4 c5 c6 c7 c8 c9 c10 c11 c12 c13 c14 c15 c16 c17
  go_region_with (first|(go_at_call 128;refine(Aa HU _).mono ?_;rintro _ wu ⟨rfl,hbwu⟩;have LU:=Ab ((Aa LL).drew.on hbwu);clear f0 c0 c1 c2 c3 c4 c5 c6 c7 c8 c9 c10 c11 c12 c13 c14 c15 c16 c17;obtain⟨f0,c0,c1,c2,c3,c4,c5,c6,c7,c8,c9,c10,c11,c12,c13,c14,c15,c16,c17⟩:=(Aa LU).one;try dsimp only at f0 c0 c1 c2 c3 c4 c5 c6 c7 c8 c9 c10 c11 c12 c13 c14 c15 c16 c17)|(go_at_call 127;refine(Aa HG _).mono ?_;rintro _ wv ⟨rfl,hbwv⟩;have LV:=Ab ((Aa LU).on hbwv);clear f0 c0 c1 c2 c3 c4 c5 c6 c7 c8 c9 c10 c11 c12 c13 c14 c15 c16 c17;obtain⟨f0,c0,c1,c2,c3,c4,c5,c6,c7,c8,c9,c10,c11,c12,c13,c14,c15,c16,c17⟩:=(Aa LV).one;try dsimp only at f0 c0 c1 c2 c3 c4 c5 c6 c7 c8 c9 c10 c11 c12 c13 c14 c15 c16 c17))
  all_goals
   clear hbwu hbwv LU f0 c0 c1 c2 c3 c4 c5 c6 c7 c8 c9 c10 c11 c12 c13 c14 c15 c16 c17
   have LX:Lie w (World.setCell (World.setCell (World.setCell (World.setCell (World.setCell wv ⟨w.heap.size,5,none⟩ (.int .i64 (orV d.g Eh).k)) ⟨w.heap.size,6,none⟩ (.bool (orV d.g Eh).b)) ⟨w.heap.size,7,none⟩ (.float .f64 (orV d.g Eh).x)) ⟨w.heap.size,8,none⟩ (.string (orV d.g Eh).s)) ⟨w.heap.size,9,none⟩ (.int .i64 (orV d.g Eh).i)) [.D {d with g:=orV d.g Eh}, .D Ar]:=(Aa LV).putg (orV d.g Eh)
   replace LL:=Ab LX
   clear LV LX
   generalize (World.setCell (World.setCell (World.setCell (World.setCell (World.setCell wv ⟨w.heap.size,5,none⟩ (.int .i64 (orV d.g Eh).k)) ⟨w.heap.size,6,none⟩ (.bool (orV d.g Eh).b)) ⟨w.heap.size,7,none⟩ (.float .f64 (orV d.g Eh).x)) ⟨w.heap.size,8,none⟩ (.string (orV d.g Eh).s)) ⟨w.heap.size,9,none⟩ (.int .i64 (orV d.g Eh).i))=X at LL ⊢
  all_goals
   go_wp2_with fail
   obtain⟨f0,c0,c1,c2,c3,c4,c5,c6,c7,c8,c9,c10,c11,c12,c13,c14,c15,c16,c17⟩:=(Aa LL).one
   try dsimp only at f0 c0 c1 c2 c3 c4 c5 c6 c7 c8 c9 c10 c11 c12 c13 c14 c15 c16 c17
   go_region_with (first|(go_at_call 128;refine(Aa HU _).mono ?_;rintro _ wu ⟨rfl,hbwu⟩;have LU:=Ab ((Aa LL).drew.on hbwu);clear f0 c0 c1 c2 c3 c4 c5 c6 c7 c8 c9 c10 c11 c12 c13 c14 c15 c16 c17;obtain⟨f0,c0,c1,c2,c3,c4,c5,c6,c7,c8,c9,c10,c11,c12,c13,c14,c15,c16,c17⟩:=(Aa LU).one;try dsimp only at f0 c0 c1 c2 c3 c4 c5 c6 c7 c8 c9 c10 c11 c12 c13 c14 c15 c16 c17)|(go_at_call 127;refine(Aa HS _).mono ?_;rintro _ wv ⟨rfl,hbwv⟩;have LV:=Ab ((Aa LU).on hbwv);clear f0 c0 c1 c2 c3 c4 c5 c6 c7 c8 c9 c10 c11 c12 c13 c14 c15 c16 c17;obtain⟨f0,c0,c1,c2,c3,c4,c5,c6,c7,c8,c9,c10,c11,c12,c13,c14,c15,c16,c17⟩:=(Aa LV).one;try dsimp only at f0 c0 c1 c2 c3 c4 c5 c6 c7 c8 c9 c10 c11 c12 c13 c14 c15 c16 c17))
   all_goals
    clear hbwu hbwv LU f0 c0 c1 c2 c3 c4 c5 c6 c7 c8 c9 c10 c11 c12 c13 c14 c15 c16 c17
    have LX:Lie w (World.setCell (World.setCell (World.setCell (World.setCell (World.setCell wv ⟨w.heap.size,10,none⟩ (.int .i64 (orV d.s Eh).k)) ⟨w.heap.size,11,none⟩ (.bool (orV d.s Eh).b)) ⟨w.heap.size,12,none⟩ (.float .f64 (orV d.s Eh).x)) ⟨w.heap.size,13,none⟩ (.string (orV d.s Eh).s)) ⟨w.heap.size,14,none⟩ (.int .i64 (orV d.s Eh).i)) [.D {{d with g:=orV d.g Eh} with s:=orV d.s Eh}, .D Ar]:=(Aa LV).puts (orV d.s Eh)
    replace LL:=Ab LX
    clear LV LX
    generalize (World.setCell (World.setCell (World.setCell (World.setCell (World.setCell wv ⟨w.heap.size,10,none⟩ (.int .i64 (orV d.s Eh).k)) ⟨w.heap.size,11,none⟩ (.bool (orV d.s Eh).b)) ⟨w.heap.size,12,none⟩ (.float .f64 (orV d.s Eh).x)) ⟨w.heap.size,13,none⟩ (.string (orV d.s Eh).s)) ⟨w.heap.size,14,none⟩ (.int .i64 (orV d.s Eh).i))=X at LL ⊢
   all_goals
    go_wp2_with (first|go_skip|((with_reducible apply Av);(case ho|hw|hx=>rfl);(case hc=>first|exact(Aa LL).one);simp only[nn])|((with_reducible apply Az);(case ho|hw|hx=>rfl);(case hc=>first|exact(Aa LL).one);simp only[nn])|((with_reducible apply Ay);(case ho|hw|hx=>rfl);(case hc=>first|exact(Aa LL).one);simp only[nn])|((with_reducible apply Au);(case ho|hw|hx=>rfl);(case hc=>first|exact(Aa LL).one);simp only[nn])|((with_reducible apply Za3 0);(case ho|hw=>rfl);(case hL=>exact Aa LL);(case hi|hx|hy=>rfl);(intro X LX;simp only[nn];replace LL:=Ab LX;clear LX))|((with_reducible apply Pq 0);(case ho|hw=>rfl);(case hL=>exact Aa LL);(case hi|hx|hy=>rfl);(intro X LX;simp only[nn];replace LL:=Ab LX;clear LX))|((with_reducible apply Ps 0);(case ho|hw=>rfl);(case hL=>exact Aa LL);(case hi|hx|hy=>rfl);(intro X LX;simp only[nn];replace LL:=Ab LX;clear LX))|((with_reducible apply Di 1);(case ho|hw=>rfl);(case hL=>exact Aa LL);(case hi|hx|hy=>rfl);(intro X LX;simp only[nn];replace LL:=Ab LX;clear LX))|(go_at_call 129;refine(Pn _ _ _).mono ?_;rintro _ _ ⟨rfl,rfl⟩))
    refine Zbb rfl rfl rfl (Aa LL).two ?_
    exact⟨rfl,(Aa LL).below⟩
 ·have e3:(sh==3)=false:=by simp[h3]
  rw[e3]
  go_enter func112,ntmps112
  go_wp2_with (first|go_skip|((with_reducible apply Av);(case ho|hw|hx=>rfl);(case hc=>first|exact(Aa LL).one|exact(Aa LL).two);simp only[nn])|(go_at_call 119;refine(Ah _ _).mono ?_;rintro _ _ ⟨rfl,rfl⟩)|(go_at_call 118;refine(Ac _ _).mono ?_;rintro _ _ ⟨rfl,rfl⟩))
  refine(Aa HB _).mono ?_
  rintro _ w2 ⟨rfl,hb⟩
  replace LL:=Ab ((Aa LL).on hb)
  clear hb
  go_wp2_with fail
  obtain⟨f0,c0,c1,c2,c3,c4,c5,c6,c7,c8,c9,c10,c11,c12,c13,c14,c15,c16,c17⟩:=(Aa LL).one
  try dsimp only at f0 c0 c1 c2 c3 c4 c5 c6 c7 c8 c9 c10 c11 c12 c13 c14 c15 c16 c17
  go_region_with (first|(go_at_call 128;refine(Aa HU _).mono ?_;rintro _ wu ⟨rfl,hbwu⟩;have LU:=Ab ((Aa LL).drew.on hbwu);clear f0 c0 c1 c2 c3 c4 c5 c6 c7 c8 c9 c10 c11 c12 c13 c14 c15 c16 c17;obtain⟨f0,c0,c1,c2,c3,c4,c5,c6,c7,c8,c9,c10,c11,c12,c13,c14,c15,c16,c17⟩:=(Aa LU).one;try dsimp only at f0 c0 c1 c2 c3 c4 c5 c6 c7 c8 c9 c10 c11 c12 c13 c14 c15 c16 c17)|(go_at_call 127;refine(Aa HV _).mono ?_;rintro _ wv ⟨rfl,hbwv⟩;have LV:=Ab ((Aa LU).on hbwv);clear f0 c0 c1 c2 c3 c4 c5 c6 c7 c8 c9 c10 c11 c12 c13 c14 c15 c16 c17;obtain⟨f0,c0,c1,c2,c3,c4,c5,c6,c7,c8,c9,c10,c11,c12,c13,c14,c15,c16,c17⟩:=(Aa LV).one;try dsimp only at f0 c0 c1 c2 c3 c4 c5 c6 c7 c8 c9 c10 c11 c12 c13 c14 c15 c16 c17))
  all_goals
   clear hbwu hbwv LU f0 c0 c1 c2 c3 c4 c5 c6 c7 c8 c9 c10 c11 c12 c13 c14 c15 c16 c17
   have LX:Lie w (World.setCell (World.setCell (World.setCell (World.setCell (World.setCell wv ⟨w.heap.size,0,none⟩ (.int .i64 (orV d.v Eh).k)) ⟨w.heap.size,1,none⟩ (.bool (orV d.v Eh).b)) ⟨w.heap.size,2,none⟩ (.float .f64 (orV d.v Eh).x)) ⟨w.heap.size,3,none⟩ (.string (orV d.v Eh).s)) ⟨w.heap.size,4,none⟩ (.int .i64 (orV d.v Eh).i)) [.D {d with v:=orV d.v Eh}, .D Ar]:=(Aa LV).putv (orV d.v Eh)
   replace LL:=Ab LX
   clear LV LX
   generalize (World.setCell (World.setCell (World.setCell (World.setCell (World.setCell wv ⟨w.heap.size,0,none⟩ (.int .i64 (orV d.v Eh).k)) ⟨w.heap.size,1,none⟩ (.bool (orV d.v Eh).b)) ⟨w.heap.size,2,none⟩ (.float .f64 (orV d.v Eh).x)) ⟨w.heap.size,3,none⟩ (.string (orV d.v Eh).s)) ⟨w.heap.size,4,none⟩ (.int .i64 (orV d.v Eh).i))=X at LL ⊢
  all_goals
   go_wp2_with (first|go_skip|((with_reducible apply Av);(case ho|hw|hx=>rfl);(case hc=>first|exact(Aa LL).one);simp only[nn])|((with_reducible apply Az);(case ho|hw|hx=>rfl);(case hc=>first|exact(Aa LL).one);simp only[nn])|((with_reducible apply Ay);(case ho|hw|hx=>rfl);(case hc=>first|exact(Aa LL).one);simp only[nn])|((with_reducible apply Au);(case ho|hw|hx=>rfl);(case hc=>first|exact(Aa LL).one);simp only[nn])|((with_reducible apply Za3 0);(case ho|hw=>rfl);(case hL=>exact Aa LL);(case hi|hx|hy=>rfl);(intro X LX;simp only[nn];replace LL:=Ab LX;clear LX))|((with_reducible apply Pq 0);(case ho|hw=>rfl);(case hL=>exact Aa LL);(case hi|hx|hy=>rfl);(intro X LX;simp only[nn];replace LL:=Ab LX;clear LX))|((with_reducible apply Ps 0);(case ho|hw=>rfl);(case hL=>exact Aa LL);(case hi|hx|hy=>rfl);(intro X LX;simp only[nn];replace LL:=Ab LX;clear LX))|((with_reducible apply Di 1);(case ho|hw=>rfl);(case hL=>exact Aa LL);(case hi|hx|hy=>rfl);(intro X LX;simp only[nn];replace LL:=Ab LX;clear LX))|(go_at_call 129;refine(Pn _ _ _).mono ?_;rintro _ _ ⟨rfl,rfl⟩))
   refine Zbb rfl rfl rfl (Aa LL).two ?_
   exact⟨rfl,(Aa LL).below⟩
end
section
open Go Go.Proofs Go.RowKit FM
theorem Xs {v:VV} (h:v.good=true):v.s.size<=1048576:=by
 have e0:ByteArray.empty.size<=1048576:=by decide
 obtain⟨k,b,x,s,i⟩:=v
 rcases Eg h with ⟨_,_,_,rfl,_⟩|⟨_,_,_,rfl,_⟩|⟨_,_,rfl,_⟩|⟨_,_,rfl,_⟩|⟨_,_,_,_,hf⟩|⟨_,_,_,rfl,_⟩|⟨_,_,_,rfl,_⟩
 ·exact e0
 ·exact e0
 ·exact e0
 ·exact e0
 ·unfold Up at hf
  simp at hf
  exact hf.1
 ·exact e0
 ·exact e0
theorem Zbp {v:VV} (h:thV v=false):v.s.size<=1048576:=by
 unfold thV at h
 simp only[Bool.not_eq_false',Bool.and_eq_true] at h
 rw[Qo h.1.2]
 decide
theorem Re {d:DD} (h:Kt d=true):d.v.s.size<=1048576:=by
 unfold Kt at h
 simp only[Bool.and_eq_true,Bool.or_eq_true,Bool.not_eq_true'] at h
 rcases h.1.1.1.1.1 with h|h
 ·exact Zbp h
 ·exact Xs h
theorem Ov {d:DD} (h: ¬Gt d=0):Kt d=true:=by
 unfold Gt at h
 cases hs:Kt d
 ·rw[hs] at h
  exact absurd rfl h
 ·rfl
theorem or_str {v:VV} (h:v.s.size<=1048576):(orV v Eh).s.size<=1048576:=by
 unfold orV
 cases thV v
 ·show Eh.s.size<=1048576
  decide
 ·exact h
theorem ZbL {d:DD} (h:d.v.s.size<=1048576):(Ni d).v.s.size<=1048576:=by
 unfold Ni
 cases Df d==3
 ·exact or_str h
 ·exact h
end
section
open Go Go.Proofs Go.RowKit FM Tryz
structure Kp (w X:World) (l:List (Nat×PB)):Prop where
 below:Below w.heap.size w X
 all: ∀q∈l,w.heap.size<=q.1/\q.1<X.heap.size/\q.2.lies X q.1
 nd:(l.map (·.1)).Nodup
theorem Kp.of2 {w X:World} {p p2:PB} (h:Lie w X [p,p2]):Kp w X [(w.heap.size,p),(w.heap.size+1,p2)]:=
 ⟨h.below,fun q hq=>by
  have hs:=h.size
  simp at hs hq
  rcases hq with rfl|rfl
  ·exact⟨Nat.le_refl _,by show w.heap.size<X.heap.size;omega,h.holds.1⟩
  ·exact⟨Nat.le_succ _,by show w.heap.size+1<X.heap.size;omega,h.holds.2.1⟩,by simp⟩
theorem Kp.on {w X X1:World} {l:List (Nat×PB)} (h:Kp w X l) (hb:Below X.heap.size X X1):Kp w X1 l:=
 ⟨h.below.trans (hb.mono h.below.size),fun q hq=>⟨(h.all q hq).1,Nat.lt_of_lt_of_le (h.all q hq).2.1 hb.size,PB.on (h.all q hq).2.2 (h.all q hq).2.1 hb⟩,h.nd⟩
theorem Kp.drew {w X:World} {l:List (Nat×PB)} (h:Kp w X l):Kp w X.drew l:=⟨h.below.drew,fun q hq=>⟨(h.all q hq).1,(h.all q hq).2.1,PB.drew (h.all q hq).2.2⟩,h.nd⟩
theorem Kp.get {w X:World} {l:List (Nat×PB)} (h:Kp w X l) (i:Nat) {b:Nat} {p:PB} (hi:l[i]? =some (b,p)):p.lies X b:=(h.all _ (List.mem_of_getElem? hi)).2.2
theorem Kp.put {w X:World} {l:List (Nat×PB)} (h:Kp w X l) (i:Nat) {b:Nat} {d u:DD} (hi:l[i]? =some (b, .D d)):Kp w (X.setCells b 0 u.cs) (l.set i (b, .D u)):=by
 have hb:=h.all _ (List.mem_of_getElem? hi)
 have hlt:=(List.getElem?_eq_some_iff.1 hi).1
 refine⟨Ki (W:=X) hb.1 _ _ _ h.below,fun q hq=> ?_, ?_⟩
 ·rw[Ku]
  obtain⟨j,hj,rfl⟩:=List.mem_iff_getElem.1 hq
  by_cases hij:i=j
  ·subst hij
   rw[List.getElem_set_self]
   exact⟨hb.1,hb.2.1,Lies.setD hb.2.2⟩
  ·rw[List.getElem_set_ne hij]
   have hj':j<l.length:=by simpa using hj
   have ha:=h.all _ (List.getElem_mem hj')
   refine⟨ha.1,ha.2.1,PB.far ha.2.2 ?_⟩
   intro e
   have hn:=List.pairwise_iff_getElem.1 h.nd
   have hie:l[i].1=b:=by
    have:=(List.getElem?_eq_some_iff.1 hi).2
    rw[this]
   rcases Nat.lt_or_gt_of_ne hij with hlt2|hlt2
   ·exact hn i j (by simpa using hlt) (by simpa using hj') hlt2 (by simp[hie,e])
   ·exact hn j i (by simpa using hj') (by simpa using hlt) hlt2 (by simp[hie,e])
 ·rw[List.map_set]
  have:(l.map (·.1)).set i b=l.map (·.1):=by
   refine List.ext_getElem? fun j=> ?_
   by_cases hij:i=j
   ·subst hij
    have:=(List.getElem?_eq_some_iff.1 hi).2
    simp[hlt,this]
   ·rw[List.getElem?_set_ne hij]
  rw[this]
  exact h.nd

section
variable {md : Region.Mode} {ops : Array Oper} {Q : Exit → Act → World → Prop} {w0 w : World} {l : List (Nat × PB)} {fuel : Nat} {listed : Array Bool} {a : Act} {o : Oper}
theorem hload27 (i j:Nat) (dst:Option Tmp) {x:Operand} {b:Nat} {d:DD} (hi:ops[i]? =some o) (hs:Region.noSelect ops=true) (hf:Region.free md ops listed i=true) (hr:(Region.ready md ops listed).contains i=true)
  (hQ: ∀c a w,Q (.panic c) (a.put dst d.agg) w->Q (.panic c) a w) (hd:o.dst=dst) (hw:Region.wanted o (yielded ops a.tmps)=true) (ho:o.op= .load 48 x) (hx:a.eval x= .pointer (some ⟨b,0,none⟩)) (hl:l[j]? =some (b, .D d))
  (hS:Kp w0 w l) (h:wpAnyH prog md ops Q (fun X=>Kp w0 X l) fuel (listed.setIfInBounds i true) (a.put dst d.agg) w):wpAnyH prog md ops Q (fun X=>Kp w0 X l) (fuel+1) listed a w:=by
 subst hd
 obtain⟨t,hu,hd⟩:=Uy
 exact wpAnyH_take hi hs hf hr hQ (yieldsIf_load_mid hw 48 x ho b 0 hx d.cs t (fun X hX=>Lies.range (hX.get j hl)) hu hd Rh) hS h
theorem hpure (i:Nat) (dst:Option Tmp) (v:Value) (hi:ops[i]? =some o) (hs:Region.noSelect ops=true) (hf:Region.free md ops listed i=true) (hr:(Region.ready md ops listed).contains i=true)
  (hQ: ∀c a w,Q (.panic c) (a.put dst v) w->Q (.panic c) a w) (hd:o.dst=dst) (hw:Region.wanted o (yielded ops a.tmps)=true) (hy: ∀w,(execOp a.eval o).run prog w= .ok (.value v) w)
  (hS:Kp w0 w l) (h:wpAnyH prog md ops Q (fun X=>Kp w0 X l) fuel (listed.setIfInBounds i true) (a.put dst v) w):wpAnyH prog md ops Q (fun X=>Kp w0 X l) (fuel+1) listed a w:=by
 subst hd
 exact wpAnyH_take hi hs hf hr hQ (Or.inl ⟨hw,fun X _=>hy X⟩) hS h
theorem ZbD (i:Nat) (dst:Option Tmp) (hi:ops[i]? =some o) (hs:Region.noSelect ops=true) (hf:Region.free md ops listed i=true) (hr:(Region.ready md ops listed).contains i=true)
  (hQ: ∀c a w,Q (.panic c) (a.put dst undef) w->Q (.panic c) a w) (hd:o.dst=dst) (hw:Region.wanted o (yielded ops a.tmps)=false)
  (hS:Kp w0 w l) (h:wpAnyH prog md ops Q (fun X=>Kp w0 X l) fuel (listed.setIfInBounds i true) (a.put dst undef) w):wpAnyH prog md ops Q (fun X=>Kp w0 X l) (fuel+1) listed a w:=by
 subst hd
 exact wpAnyH_take hi hs hf hr hQ (Or.inr ⟨hw,rfl⟩) hS h
theorem hcall (i:Nat) (dst:Option Tmp) {f:FuncId} {args:Array Value} {V:Value} (hi:ops[i]? =some o) (hr:Region.ready md ops listed= [i]) (hd:o.dst=dst) (hw:Region.wanted o (yielded ops a.tmps)=true)
  (he:(execOp a.eval o).run prog w= .ok (.enter f args) w) (hC:Calls prog f args w fun e w'=>e= .returned V/\Below w.heap.size w w') (hS:Kp w0 w l)
  (h: ∀X,Kp w0 X l->wpAnyH prog md ops Q (fun X=>Kp w0 X l) fuel (listed.setIfInBounds i true) (a.put dst V) X):wpAnyH prog md ops Q (fun X=>Kp w0 X l) (fuel+1) listed a w:=by
 subst hd
 refine wpAnyH_ready hr (by simp) (AllReadyH.cons hi (fun K hK=> ?_) AllReadyH.nil)
 rw[if_pos hw]
 unfold Oper.wp
 rw[he,Oper.upon_enter]
 refine hC.mono ?_
 rintro _ X ⟨rfl,hb⟩
 exact hK.out _ _ (hS.on hb) (fun hX=>h X hX)
theorem x00 (i:Nat) (dst:Option Tmp) (v:Value) (hi:ops[i]? =some o) (hS:Kp w0 w l) (h:wpAnyH prog md ops Q (fun X=>Kp w0 X l) fuel (listed.setIfInBounds i true) (a.put dst v) w) (hy: ∀w,(execOp a.eval o).run prog w= .ok (.value v) w:=by intro _;kernel_rfl) (hs:Region.noSelect ops=true:=by kernel_rfl) (hf:Region.free md ops listed i=true:=by kernel_rfl) (hr:(Region.ready md ops listed).contains i=true:=by kernel_rfl) (hQ: ∀c a w,Q (.panic c) (a.put dst v) w->Q (.panic c) a w:=by exact fun _ _ _ h=>h) (hd:o.dst=dst:=by kernel_rfl) (hw:Region.wanted o (yielded ops a.tmps)=true:=by kernel_rfl):wpAnyH prog md ops Q (fun X=>Kp w0 X l) (fuel+1) listed a w:=hpure i dst v hi hs hf hr hQ hd hw hy hS h
theorem x0 {aB:Act} (i:Nat) (dst:Option Tmp) (v:Value) (hi:ops[i]? =some o) (hS:Kp w0 w l) (h:wpAnyH prog md ops Q (fun X=>Kp w0 X l) fuel (listed.setIfInBounds i true) aB w) (hb:a.put dst v=aB:=by simp only[nn]<;>rfl) (hy: ∀w,(execOp a.eval o).run prog w= .ok (.value v) w:=by intro _;kernel_rfl) (hs:Region.noSelect ops=true:=by kernel_rfl) (hf:Region.free md ops listed i=true:=by kernel_rfl) (hr:(Region.ready md ops listed).contains i=true:=by kernel_rfl) (hQ: ∀c a w,Q (.panic c) (a.put dst v) w->Q (.panic c) a w:=by exact fun _ _ _ h=>h) (hd:o.dst=dst:=by kernel_rfl) (hw:Region.wanted o (yielded ops a.tmps)=true:=by kernel_rfl):wpAnyH prog md ops Q (fun X=>Kp w0 X l) (fuel+1) listed a w:=x00 i dst v hi hS (hb▸h) hy hs hf hr hQ hd hw
theorem x10 (i j:Nat) (dst:Option Tmp) {x:Operand} {b:Nat} {d:DD} (hi:ops[i]? =some o) (hl:l[j]? =some (b, .D d)) (hS:Kp w0 w l) (h:wpAnyH prog md ops Q (fun X=>Kp w0 X l) fuel (listed.setIfInBounds i true) (a.put dst d.agg) w) (hs:Region.noSelect ops=true:=by kernel_rfl) (hf:Region.free md ops listed i=true:=by kernel_rfl) (hr:(Region.ready md ops listed).contains i=true:=by kernel_rfl) (hQ: ∀c a w,Q (.panic c) (a.put dst d.agg) w->Q (.panic c) a w:=by exact fun _ _ _ h=>h) (hd:o.dst=dst:=by kernel_rfl) (hw:Region.wanted o (yielded ops a.tmps)=true:=by kernel_rfl) (ho:o.op= .load 48 x:=by kernel_rfl) (hx:a.eval x= .pointer (some ⟨b,0,none⟩):=by kernel_rfl):wpAnyH prog md ops Q (fun X=>Kp w0 X l) (fuel+1) listed a w:=hload27 i j dst hi hs hf hr hQ hd hw ho hx hl hS h
theorem x1 {aB:Act} (i j:Nat) (dst:Option Tmp) {x:Operand} {b:Nat} {d:DD} (hi:ops[i]? =some o) (hl:l[j]? =some (b, .D d)) (hS:Kp w0 w l) (h:wpAnyH prog md ops Q (fun X=>Kp w0 X l) fuel (listed.setIfInBounds i true) aB w) (hb:a.put dst d.agg=aB:=by simp only[nn]<;>rfl) (hs:Region.noSelect ops=true:=by kernel_rfl) (hf:Region.free md ops listed i=true:=by kernel_rfl) (hr:(Region.ready md ops listed).contains i=true:=by kernel_rfl) (hQ: ∀c a w,Q (.panic c) (a.put dst d.agg) w->Q (.panic c) a w:=by exact fun _ _ _ h=>h) (hd:o.dst=dst:=by kernel_rfl) (hw:Region.wanted o (yielded ops a.tmps)=true:=by kernel_rfl) (ho:o.op= .load 48 x:=by kernel_rfl) (hx:a.eval x= .pointer (some ⟨b,0,none⟩):=by kernel_rfl):wpAnyH prog md ops Q (fun X=>Kp w0 X l) (fuel+1) listed a w:=x10 i j dst hi hl hS (hb▸h) hs hf hr hQ hd hw ho hx
theorem x2 (i:Nat) (dst:Option Tmp) {f:FuncId} {args:Array Value} {V:Value} (hi:ops[i]? =some o) (hC:Calls prog f args w fun e w'=>e= .returned V/\Below w.heap.size w w') (hS:Kp w0 w l) (h: ∀X,Kp w0 X l->wpAnyH prog md ops Q (fun X=>Kp w0 X l) fuel (listed.setIfInBounds i true) (a.put dst V) X) (hr:Region.ready md ops listed= [i]:=by kernel_rfl) (hd:o.dst=dst:=by kernel_rfl) (hw:Region.wanted o (yielded ops a.tmps)=true:=by kernel_rfl) (he:(execOp a.eval o).run prog w= .ok (.enter f args) w:=by kernel_rfl):wpAnyH prog md ops Q (fun X=>Kp w0 X l) (fuel+1) listed a w:=hcall i dst hi hr hd hw he hC hS h
end
end
section
open Go Go.Proofs Go.RowKit FM
theorem Zb4 {d:DD} (h:Qz d=true): ¬Gt d=0:=by
 intro hk
 unfold Qz at h
 rw[hk] at h
 simp at h
end
section
open Go Go.Proofs Go.RowKit FM Tryz
def Ea (n d:DD):Bool:=Df d !=1 && Df d !=Df n
def Yc (n d:DD):Bool:=if d.c==2||d.e !=0 && d.e !=n.e||Ea n d then true else if Df n==3 then ZbR n.g d.g||ZbR n.s d.s else n.w==1 && (d.w==2||ZbR n.v d.v)
def ZaQ (n d:DD):DD:=if Ea n d then Ni ⟨d.v,d.g,d.s,d.w,orT d.e n.e,orT d.c n.c⟩ else ⟨orV d.v n.v,orV d.g n.g,orV d.s n.s,orT d.w n.w,orT d.e n.e,orT d.c n.c⟩
theorem turns_00 (n d:DD) (hn:FD n) (hd:FD d) (h1:Df d=0) (h2:Df n=0) (w:World):Calls prog 130 #[n.agg,d.agg] w fun e w'=>e= .returned (.bool (Ea n d))/\Below w.heap.size w w':=by
 have HD:=Ab (Da d hd)
 have HN:=Ab (Da n hn)
 clear hn hd
 have LL:=Ab (Kp.of2 (Lie.new2 w (.D n) (.D d)))
 unfold Ea
 rw[h1,h2]
 rw[h1] at HD
 rw[h2] at HN
 have hq0:=Gc n
 have hq1:=Gc d
 rw[hq0,hq1]
 clear hq0 hq1
 go_enter func130,ntmps130
 go_wp2_with fail
 refine wp_region_held_drew (P:=prog) (S:=fun X=>Kp w X [(w.heap.size, .D n),(w.heap.size+1, .D d)]) (by kernel_rfl) (Kp.drew (Aa LL)) (fun hS0=> ?_)
 refine x1 0 1 (some 5) (x:= .tmp 3) (b:=w.heap.size+1) (d:=d) rfl rfl hS0 ?_
 refine x2 1 (some 6) rfl (Aa HD _) hS0 (fun uw1 hS1=> ?_)
 clear hS0
 simp only[nn]
 refine x0 2 (some 7) (.bool true) rfl hS1 ?_
 refine x0 3 (some 8) (.bool true) rfl hS1 ?_
 refine x1 4 1 (some 9) (x:= .tmp 3) (b:=w.heap.size+1) (d:=d) rfl rfl hS1 ?_
 refine x1 6 0 (some 11) (x:= .tmp 2) (b:=w.heap.size) (d:=n) rfl rfl hS1 ?_
 refine x2 5 (some 10) rfl (Aa HD _) hS1 (fun uw2 hS2=> ?_)
 clear hS1
 simp only[nn]
 refine x2 7 (some 12) rfl (Aa HN _) hS2 (fun uw3 hS3=> ?_)
 clear hS2
 simp only[nn]
 refine x0 8 (some 13) (.bool false) rfl hS3 ?_
 refine x0 9 (some 14) (.bool false) rfl hS3 ?_
 refine x0 10 (some 4) (.bool false) rfl hS3 ?_
 refine dn ?_
 try simp only[nn]
 replace LL:=Ab hS3
 clear hS3
 go_wp2_with fail
 go_ret
 exact⟨rfl,(Aa LL).below⟩
theorem turns_01 (n d:DD) (hn:FD n) (hd:FD d) (h1:Df d=0) (h2:Df n=1) (w:World):Calls prog 130 #[n.agg,d.agg] w fun e w'=>e= .returned (.bool (Ea n d))/\Below w.heap.size w w':=by
 have HD:=Ab (Da d hd)
 have HN:=Ab (Da n hn)
 clear hn hd
 have LL:=Ab (Kp.of2 (Lie.new2 w (.D n) (.D d)))
 unfold Ea
 rw[h1,h2]
 rw[h1] at HD
 rw[h2] at HN
 have hq0:=Gc n
 have hq1:=Gc d
 rw[hq0,hq1]
 clear hq0 hq1
 go_enter func130,ntmps130
 go_wp2_with fail
 refine wp_region_held_drew (P:=prog) (S:=fun X=>Kp w X [(w.heap.size, .D n),(w.heap.size+1, .D d)]) (by kernel_rfl) (Kp.drew (Aa LL)) (fun hS0=> ?_)
 refine x1 0 1 (some 5) (x:= .tmp 3) (b:=w.heap.size+1) (d:=d) rfl rfl hS0 ?_
 refine x2 1 (some 6) rfl (Aa HD _) hS0 (fun uw1 hS1=> ?_)
 clear hS0
 simp only[nn]
 refine x0 2 (some 7) (.bool true) rfl hS1 ?_
 refine x0 3 (some 8) (.bool true) rfl hS1 ?_
 refine x1 4 1 (some 9) (x:= .tmp 3) (b:=w.heap.size+1) (d:=d) rfl rfl hS1 ?_
 refine x1 6 0 (some 11) (x:= .tmp 2) (b:=w.heap.size) (d:=n) rfl rfl hS1 ?_
 refine x2 5 (some 10) rfl (Aa HD _) hS1 (fun uw2 hS2=> ?_)
 clear hS1
 simp only[nn]
 refine x2 7 (some 12) rfl (Aa HN _) hS2 (fun uw3 hS3=> ?_)
 clear hS2
 simp only[nn]
 refine x0 8 (some 13) (.bool true) rfl hS3 ?_
 refine x0 9 (some 14) (.bool true) rfl hS3 ?_
 refine x0 10 (some 4) (.bool true) rfl hS3 ?_
 refine dn ?_
 try simp only[nn]
 replace LL:=Ab hS3
 clear hS3
 go_wp2_with fail
 go_ret
 exact⟨rfl,(Aa LL).below⟩
theorem turns_02 (n d:DD) (hn:FD n) (hd:FD d) (h1:Df d=0) (h2:Df n=2) (w:World):Calls prog 130 #[n.agg,d.agg] w fun e w'=>e= .returned (.bool (Ea n d))/\Below w.heap.size w w':=by
 have HD:=Ab (Da d hd)
 have HN:=Ab (Da n hn)
 clear hn hd
 have LL:=Ab (Kp.of2 (Lie.new2 w (.D n) (.D d)))
 unfold Ea
 rw[h1,h2]
 rw[h1] at HD
 rw[h2] at HN
 have hq0:=Gc n
 have hq1:=Gc d
 rw[hq0,hq1]
 clear hq0 hq1
 go_enter func130,ntmps130
 go_wp2_with fail
 refine wp_region_held_drew (P:=prog) (S:=fun X=>Kp w X [(w.heap.size, .D n),(w.heap.size+1, .D d)]) (by kernel_rfl) (Kp.drew (Aa LL)) (fun hS0=> ?_)
 refine x1 0 1 (some 5) (x:= .tmp 3) (b:=w.heap.size+1) (d:=d) rfl rfl hS0 ?_
 refine x2 1 (some 6) rfl (Aa HD _) hS0 (fun uw1 hS1=> ?_)
 clear hS0
 simp only[nn]
 refine x0 2 (some 7) (.bool true) rfl hS1 ?_
 refine x0 3 (some 8) (.bool true) rfl hS1 ?_
 refine x1 4 1 (some 9) (x:= .tmp 3) (b:=w.heap.size+1) (d:=d) rfl rfl hS1 ?_
 refine x1 6 0 (some 11) (x:= .tmp 2) (b:=w.heap.size) (d:=n) rfl rfl hS1 ?_
 refine x2 5 (some 10) rfl (Aa HD _) hS1 (fun uw2 hS2=> ?_)
 clear hS1
 simp only[nn]
 refine x2 7 (some 12) rfl (Aa HN _) hS2 (fun uw3 hS3=> ?_)
 clear hS2
 simp only[nn]
 refine x0 8 (some 13) (.bool true) rfl hS3 ?_
 refine x0 9 (some 14) (.bool true) rfl hS3 ?_
 refine x0 10 (some 4) (.bool true) rfl hS3 ?_
 refine dn ?_
 try simp only[nn]
 replace LL:=Ab hS3
 clear hS3
 go_wp2_with fail
 go_ret
 exact⟨rfl,(Aa LL).below⟩
theorem turns_03 (n d:DD) (hn:FD n) (hd:FD d) (h1:Df d=0) (h2:Df n=3) (w:World):Calls prog 130 #[n.agg,d.agg] w fun e w'=>e= .returned (.bool (Ea n d))/\Below w.heap.size w w':=by
 have HD:=Ab (Da d hd)
 have HN:=Ab (Da n hn)
 clear hn hd
 have LL:=Ab (Kp.of2 (Lie.new2 w (.D n) (.D d)))
 unfold Ea
 rw[h1,h2]
 rw[h1] at HD
 rw[h2] at HN
 have hq0:=Gc n
 have hq1:=Gc d
 rw[hq0,hq1]
 clear hq0 hq1
 go_enter func130,ntmps130
 go_wp2_with fail
 refine wp_region_held_drew (P:=prog) (S:=fun X=>Kp w X [(w.heap.size, .D n),(w.heap.size+1, .D d)]) (by kernel_rfl) (Kp.drew (Aa LL)) (fun hS0=> ?_)
 refine x1 0 1 (some 5) (x:= .tmp 3) (b:=w.heap.size+1) (d:=d) rfl rfl hS0 ?_
 refine x2 1 (some 6) rfl (Aa HD _) hS0 (fun uw1 hS1=> ?_)
 clear hS0
 simp only[nn]
 refine x0 2 (some 7) (.bool true) rfl hS1 ?_
 refine x0 3 (some 8) (.bool true) rfl hS1 ?_
 refine x1 4 1 (some 9) (x:= .tmp 3) (b:=w.heap.size+1) (d:=d) rfl rfl hS1 ?_
 refine x1 6 0 (some 11) (x:= .tmp 2) (b:=w.heap.size) (d:=n) rfl rfl hS1 ?_
 refine x2 5 (some 10) rfl (Aa HD _) hS1 (fun uw2 hS2=> ?_)
 clear hS1
 simp only[nn]
 refine x2 7 (some 12) rfl (Aa HN _) hS2 (fun uw3 hS3=> ?_)
 clear hS2
 simp only[nn]
 refine x0 8 (some 13) (.bool true) rfl hS3 ?_
 refine x0 9 (some 14) (.bool true) rfl hS3 ?_
 refine x0 10 (some 4) (.bool true) rfl hS3 ?_
 refine dn ?_
 try simp only[nn]
 replace LL:=Ab hS3
 clear hS3
 go_wp2_with fail
 go_ret
 exact⟨rfl,(Aa LL).below⟩
theorem turns_1 (n d:DD) (hn:FD n) (hd:FD d) (h1:Df d=1) (w:World):Calls prog 130 #[n.agg,d.agg] w fun e w'=>e= .returned (.bool (Ea n d))/\Below w.heap.size w w':=by
 have HD:=Ab (Da d hd)
 have HN:=Ab (Da n hn)
 clear hn hd
 have LL:=Ab (Kp.of2 (Lie.new2 w (.D n) (.D d)))
 unfold Ea
 rw[h1]
 rw[h1] at HD
 have hq0:=Gc n
 have hq1:=Gc d
 rw[hq0,hq1]
 clear hq0 hq1
 go_enter func130,ntmps130
 go_wp2_with fail
 refine wp_region_held_drew (P:=prog) (S:=fun X=>Kp w X [(w.heap.size, .D n),(w.heap.size+1, .D d)]) (by kernel_rfl) (Kp.drew (Aa LL)) (fun hS0=> ?_)
 refine x1 0 1 (some 5) (x:= .tmp 3) (b:=w.heap.size+1) (d:=d) rfl rfl hS0 ?_
 refine x2 1 (some 6) rfl (Aa HD _) hS0 (fun uw1 hS1=> ?_)
 clear hS0
 simp only[nn]
 refine x0 2 (some 7) (.bool false) rfl hS1 ?_
 refine x0 3 (some 8) (.bool false) rfl hS1 ?_
 refine ZbD 4 (some 9) rfl (by kernel_rfl) (by kernel_rfl) (by kernel_rfl) (fun _ _ _ h=>h) (by kernel_rfl) (by kernel_rfl) hS1 ?_
 simp only[nn]
 refine ZbD 5 (some 10) rfl (by kernel_rfl) (by kernel_rfl) (by kernel_rfl) (fun _ _ _ h=>h) (by kernel_rfl) (by kernel_rfl) hS1 ?_
 simp only[nn]
 refine ZbD 6 (some 11) rfl (by kernel_rfl) (by kernel_rfl) (by kernel_rfl) (fun _ _ _ h=>h) (by kernel_rfl) (by kernel_rfl) hS1 ?_
 simp only[nn]
 refine ZbD 7 (some 12) rfl (by kernel_rfl) (by kernel_rfl) (by kernel_rfl) (fun _ _ _ h=>h) (by kernel_rfl) (by kernel_rfl) hS1 ?_
 simp only[nn]
 refine ZbD 8 (some 13) rfl (by kernel_rfl) (by kernel_rfl) (by kernel_rfl) (fun _ _ _ h=>h) (by kernel_rfl) (by kernel_rfl) hS1 ?_
 simp only[nn]
 refine x0 9 (some 14) (.bool false) rfl hS1 ?_
 refine x0 10 (some 4) (.bool false) rfl hS1 ?_
 refine dn ?_
 try simp only[nn]
 replace LL:=Ab hS1
 clear hS1
 go_wp2_with fail
 go_ret
 exact⟨rfl,(Aa LL).below⟩
theorem turns_20 (n d:DD) (hn:FD n) (hd:FD d) (h1:Df d=2) (h2:Df n=0) (w:World):Calls prog 130 #[n.agg,d.agg] w fun e w'=>e= .returned (.bool (Ea n d))/\Below w.heap.size w w':=by
 have HD:=Ab (Da d hd)
 have HN:=Ab (Da n hn)
 clear hn hd
 have LL:=Ab (Kp.of2 (Lie.new2 w (.D n) (.D d)))
 unfold Ea
 rw[h1,h2]
 rw[h1] at HD
 rw[h2] at HN
 have hq0:=Gc n
 have hq1:=Gc d
 rw[hq0,hq1]
 clear hq0 hq1
 go_enter func130,ntmps130
 go_wp2_with fail
 refine wp_region_held_drew (P:=prog) (S:=fun X=>Kp w X [(w.heap.size, .D n),(w.heap.size+1, .D d)]) (by kernel_rfl) (Kp.drew (Aa LL)) (fun hS0=> ?_)
 refine x1 0 1 (some 5) (x:= .tmp 3) (b:=w.heap.size+1) (d:=d) rfl rfl hS0 ?_
 refine x2 1 (some 6) rfl (Aa HD _) hS0 (fun uw1 hS1=> ?_)
 clear hS0
 simp only[nn]
 refine x0 2 (some 7) (.bool true) rfl hS1 ?_
 refine x0 3 (some 8) (.bool true) rfl hS1 ?_
 refine x1 4 1 (some 9) (x:= .tmp 3) (b:=w.heap.size+1) (d:=d) rfl rfl hS1 ?_
 refine x1 6 0 (some 11) (x:= .tmp 2) (b:=w.heap.size) (d:=n) rfl rfl hS1 ?_
 refine x2 5 (some 10) rfl (Aa HD _) hS1 (fun uw2 hS2=> ?_)
 clear hS1
 simp only[nn]
 refine x2 7 (some 12) rfl (Aa HN _) hS2 (fun uw3 hS3=> ?_)
 clear hS2
 simp only[nn]
 refine x0 8 (some 13) (.bool true) rfl hS3 ?_
 refine x0 9 (some 14) (.bool true) rfl hS3 ?_
 refine x0 10 (some 4) (.bool true) rfl hS3 ?_
 refine dn ?_
 try simp only[nn]
 replace LL:=Ab hS3
 clear hS3
 go_wp2_with fail
 go_ret
 exact⟨rfl,(Aa LL).below⟩
theorem turns_21 (n d:DD) (hn:FD n) (hd:FD d) (h1:Df d=2) (h2:Df n=1) (w:World):Calls prog 130 #[n.agg,d.agg] w fun e w'=>e= .returned (.bool (Ea n d))/\Below w.heap.size w w':=by
 have HD:=Ab (Da d hd)
 have HN:=Ab (Da n hn)
 clear hn hd
 have LL:=Ab (Kp.of2 (Lie.new2 w (.D n) (.D d)))
 unfold Ea
 rw[h1,h2]
 rw[h1] at HD
 rw[h2] at HN
 have hq0:=Gc n
 have hq1:=Gc d
 rw[hq0,hq1]
 clear hq0 hq1
 go_enter func130,ntmps130
 go_wp2_with fail
 refine wp_region_held_drew (P:=prog) (S:=fun X=>Kp w X [(w.heap.size, .D n),(w.heap.size+1, .D d)]) (by kernel_rfl) (Kp.drew (Aa LL)) (fun hS0=> ?_)
 refine x1 0 1 (some 5) (x:= .tmp 3) (b:=w.heap.size+1) (d:=d) rfl rfl hS0 ?_
 refine x2 1 (some 6) rfl (Aa HD _) hS0 (fun uw1 hS1=> ?_)
 clear hS0
 simp only[nn]
 refine x0 2 (some 7) (.bool true) rfl hS1 ?_
 refine x0 3 (some 8) (.bool true) rfl hS1 ?_
 refine x1 4 1 (some 9) (x:= .tmp 3) (b:=w.heap.size+1) (d:=d) rfl rfl hS1 ?_
 refine x1 6 0 (some 11) (x:= .tmp 2) (b:=w.heap.size) (d:=n) rfl rfl hS1 ?_
 refine x2 5 (some 10) rfl (Aa HD _) hS1 (fun uw2 hS2=> ?_)
 clear hS1
 simp only[nn]
 refine x2 7 (some 12) rfl (Aa HN _) hS2 (fun uw3 hS3=> ?_)
 clear hS2
 simp only[nn]
 refine x0 8 (some 13) (.bool true) rfl hS3 ?_
 refine x0 9 (some 14) (.bool true) rfl hS3 ?_
 refine x0 10 (some 4) (.bool true) rfl hS3 ?_
 refine dn ?_
 try simp only[nn]
 replace LL:=Ab hS3
 clear hS3
 go_wp2_with fail
 go_ret
 exact⟨rfl,(Aa LL).below⟩
theorem turns_22 (n d:DD) (hn:FD n) (hd:FD d) (h1:Df d=2) (h2:Df n=2) (w:World):Calls prog 130 #[n.agg,d.agg] w fun e w'=>e= .returned (.bool (Ea n d))/\Below w.heap.size w w':=by
 have HD:=Ab (Da d hd)
 have HN:=Ab (Da n hn)
 clear hn hd
 have LL:=Ab (Kp.of2 (Lie.new2 w (.D n) (.D d)))
 unfold Ea
 rw[h1,h2]
 rw[h1] at HD
 rw[h2] at HN
 have hq0:=Gc n
 have hq1:=Gc d
 rw[hq0,hq1]
 clear hq0 hq1
 go_enter func130,ntmps130
 go_wp2_with fail
 refine wp_region_held_drew (P:=prog) (S:=fun X=>Kp w X [(w.heap.size, .D n),(w.heap.size+1, .D d)]) (by kernel_rfl) (Kp.drew (Aa LL)) (fun hS0=> ?_)
 refine x1 0 1 (some 5) (x:= .tmp 3) (b:=w.heap.size+1) (d:=d) rfl rfl hS0 ?_
 refine x2 1 (some 6) rfl (Aa HD _) hS0 (fun uw1 hS1=> ?_)
 clear hS0
 simp only[nn]
 refine x0 2 (some 7) (.bool true) rfl hS1 ?_
 refine x0 3 (some 8) (.bool true) rfl hS1 ?_
 refine x1 4 1 (some 9) (x:= .tmp 3) (b:=w.heap.size+1) (d:=d) rfl rfl hS1 ?_
 refine x1 6 0 (some 11) (x:= .tmp 2) (b:=w.heap.size) (d:=n) rfl rfl hS1 ?_
 refine x2 5 (some 10) rfl (Aa HD _) hS1 (fun uw2 hS2=> ?_)
 clear hS1
 simp only[nn]
 refine x2 7 (some 12) rfl (Aa HN _) hS2 (fun uw3 hS3=> ?_)
 clear hS2
 simp only[nn]
 refine x0 8 (some 13) (.bool false) rfl hS3 ?_
 refine x0 9 (some 14) (.bool false) rfl hS3 ?_
 refine x0 10 (some 4) (.bool false) rfl hS3 ?_
 refine dn ?_
 try simp only[nn]
 replace LL:=Ab hS3
 clear hS3
 go_wp2_with fail
 go_ret
 exact⟨rfl,(Aa LL).below⟩
theorem turns_23 (n d:DD) (hn:FD n) (hd:FD d) (h1:Df d=2) (h2:Df n=3) (w:World):Calls prog 130 #[n.agg,d.agg] w fun e w'=>e= .returned (.bool (Ea n d))/\Below w.heap.size w w':=by
 have HD:=Ab (Da d hd)
 have HN:=Ab (Da n hn)
 clear hn hd
 have LL:=Ab (Kp.of2 (Lie.new2 w (.D n) (.D d)))
 unfold Ea
 rw[h1,h2]
 rw[h1] at HD
 rw[h2] at HN
 have hq0:=Gc n
 have hq1:=Gc d
 rw[hq0,hq1]
 clear hq0 hq1
 go_enter func130,ntmps130
 go_wp2_with fail
 refine wp_region_held_drew (P:=prog) (S:=fun X=>Kp w X [(w.heap.size, .D n),(w.heap.size+1, .D d)]) (by kernel_rfl) (Kp.drew (Aa LL)) (fun hS0=> ?_)
 refine x1 0 1 (some 5) (x:= .tmp 3) (b:=w.heap.size+1) (d:=d) rfl rfl hS0 ?_
 refine x2 1 (some 6) rfl (Aa HD _) hS0 (fun uw1 hS1=> ?_)
 clear hS0
 simp only[nn]
 refine x0 2 (some 7) (.bool true) rfl hS1 ?_
 refine x0 3 (some 8) (.bool true) rfl hS1 ?_
 refine x1 4 1 (some 9) (x:= .tmp 3) (b:=w.heap.size+1) (d:=d) rfl rfl hS1 ?_
 refine x1 6 0 (some 11) (x:= .tmp 2) (b:=w.heap.size) (d:=n) rfl rfl hS1 ?_
 refine x2 5 (some 10) rfl (Aa HD _) hS1 (fun uw2 hS2=> ?_)
 clear hS1
 simp only[nn]
 refine x2 7 (some 12) rfl (Aa HN _) hS2 (fun uw3 hS3=> ?_)
 clear hS2
 simp only[nn]
 refine x0 8 (some 13) (.bool true) rfl hS3 ?_
 refine x0 9 (some 14) (.bool true) rfl hS3 ?_
 refine x0 10 (some 4) (.bool true) rfl hS3 ?_
 refine dn ?_
 try simp only[nn]
 replace LL:=Ab hS3
 clear hS3
 go_wp2_with fail
 go_ret
 exact⟨rfl,(Aa LL).below⟩
theorem turns_30 (n d:DD) (hn:FD n) (hd:FD d) (h1:Df d=3) (h2:Df n=0) (w:World):Calls prog 130 #[n.agg,d.agg] w fun e w'=>e= .returned (.bool (Ea n d))/\Below w.heap.size w w':=by
 have HD:=Ab (Da d hd)
 have HN:=Ab (Da n hn)
 clear hn hd
 have LL:=Ab (Kp.of2 (Lie.new2 w (.D n) (.D d)))
 unfold Ea
 rw[h1,h2]
 rw[h1] at HD
 rw[h2] at HN
 have hq0:=Gc n
 have hq1:=Gc d
 rw[hq0,hq1]
 clear hq0 hq1
 go_enter func130,ntmps130
 go_wp2_with fail
 refine wp_region_held_drew (P:=prog) (S:=fun X=>Kp w X [(w.heap.size, .D n),(w.heap.size+1, .D d)]) (by kernel_rfl) (Kp.drew (Aa LL)) (fun hS0=> ?_)
 refine x1 0 1 (some 5) (x:= .tmp 3) (b:=w.heap.size+1) (d:=d) rfl rfl hS0 ?_
 refine x2 1 (some 6) rfl (Aa HD _) hS0 (fun uw1 hS1=> ?_)
 clear hS0
 simp only[nn]
 refine x0 2 (some 7) (.bool true) rfl hS1 ?_
 refine x0 3 (some 8) (.bool true) rfl hS1 ?_
 refine x1 4 1 (some 9) (x:= .tmp 3) (b:=w.heap.size+1) (d:=d) rfl rfl hS1 ?_
 refine x1 6 0 (some 11) (x:= .tmp 2) (b:=w.heap.size) (d:=n) rfl rfl hS1 ?_
 refine x2 5 (some 10) rfl (Aa HD _) hS1 (fun uw2 hS2=> ?_)
 clear hS1
 simp only[nn]
 refine x2 7 (some 12) rfl (Aa HN _) hS2 (fun uw3 hS3=> ?_)
 clear hS2
 simp only[nn]
 refine x0 8 (some 13) (.bool true) rfl hS3 ?_
 refine x0 9 (some 14) (.bool true) rfl hS3 ?_
 refine x0 10 (some 4) (.bool true) rfl hS3 ?_
 refine dn ?_
 try simp only[nn]
 replace LL:=Ab hS3
 clear hS3
 go_wp2_with fail
 go_ret
 exact⟨rfl,(Aa LL).below⟩
theorem turns_31 (n d:DD) (hn:FD n) (hd:FD d) (h1:Df d=3) (h2:Df n=1) (w:World):Calls prog 130 #[n.agg,d.agg] w fun e w'=>e= .returned (.bool (Ea n d))/\Below w.heap.size w w':=by
 have HD:=Ab (Da d hd)
 have HN:=Ab (Da n hn)
 clear hn hd
 have LL:=Ab (Kp.of2 (Lie.new2 w (.D n) (.D d)))
 unfold Ea
 rw[h1,h2]
 rw[h1] at HD
 rw[h2] at HN
 have hq0:=Gc n
 have hq1:=Gc d
 rw[hq0,hq1]
 clear hq0 hq1
 go_enter func130,ntmps130
 go_wp2_with fail
 refine wp_region_held_drew (P:=prog) (S:=fun X=>Kp w X [(w.heap.size, .D n),(w.heap.size+1, .D d)]) (by kernel_rfl) (Kp.drew (Aa LL)) (fun hS0=> ?_)
 refine x1 0 1 (some 5) (x:= .tmp 3) (b:=w.heap.size+1) (d:=d) rfl rfl hS0 ?_
 refine x2 1 (some 6) rfl (Aa HD _) hS0 (fun uw1 hS1=> ?_)
 clear hS0
 simp only[nn]
 refine x0 2 (some 7) (.bool true) rfl hS1 ?_
 refine x0 3 (some 8) (.bool true) rfl hS1 ?_
 refine x1 4 1 (some 9) (x:= .tmp 3) (b:=w.heap.size+1) (d:=d) rfl rfl hS1 ?_
 refine x1 6 0 (some 11) (x:= .tmp 2) (b:=w.heap.size) (d:=n) rfl rfl hS1 ?_
 refine x2 5 (some 10) rfl (Aa HD _) hS1 (fun uw2 hS2=> ?_)
 clear hS1
 simp only[nn]
 refine x2 7 (some 12) rfl (Aa HN _) hS2 (fun uw3 hS3=> ?_)
 clear hS2
 simp only[nn]
 refine x0 8 (some 13) (.bool true) rfl hS3 ?_
 refine x0 9 (some 14) (.bool true) rfl hS3 ?_
 refine x0 10 (some 4) (.bool true) rfl hS3 ?_
 refine dn ?_
 try simp only[nn]
 replace LL:=Ab hS3
 clear hS3
 go_wp2_with fail
 go_ret
 exact⟨rfl,(Aa LL).below⟩
theorem turns_32 (n d:DD) (hn:FD n) (hd:FD d) (h1:Df d=3) (h2:Df n=2) (w:World):Calls prog 130 #[n.agg,d.agg] w fun e w'=>e= .returned (.bool (Ea n d))/\Below w.heap.size w w':=by
 have HD:=Ab (Da d hd)
 have HN:=Ab (Da n hn)
 clear hn hd
 have LL:=Ab (Kp.of2 (Lie.new2 w (.D n) (.D d)))
 unfold Ea
 rw[h1,h2]
 rw[h1] at HD
 rw[h2] at HN
 have hq0:=Gc n
 have hq1:=Gc d
 rw[hq0,hq1]
 clear hq0 hq1
 go_enter func130,ntmps130
 go_wp2_with fail
 refine wp_region_held_drew (P:=prog) (S:=fun X=>Kp w X [(w.heap.size, .D n),(w.heap.size+1, .D d)]) (by kernel_rfl) (Kp.drew (Aa LL)) (fun hS0=> ?_)
 refine x1 0 1 (some 5) (x:= .tmp 3) (b:=w.heap.size+1) (d:=d) rfl rfl hS0 ?_
 refine x2 1 (some 6) rfl (Aa HD _) hS0 (fun uw1 hS1=> ?_)
 clear hS0
 simp only[nn]
 refine x0 2 (some 7) (.bool true) rfl hS1 ?_
 refine x0 3 (some 8) (.bool true) rfl hS1 ?_
 refine x1 4 1 (some 9) (x:= .tmp 3) (b:=w.heap.size+1) (d:=d) rfl rfl hS1 ?_
 refine x1 6 0 (some 11) (x:= .tmp 2) (b:=w.heap.size) (d:=n) rfl rfl hS1 ?_
 refine x2 5 (some 10) rfl (Aa HD _) hS1 (fun uw2 hS2=> ?_)
 clear hS1
 simp only[nn]
 refine x2 7 (some 12) rfl (Aa HN _) hS2 (fun uw3 hS3=> ?_)
 clear hS2
 simp only[nn]
 refine x0 8 (some 13) (.bool true) rfl hS3 ?_
 refine x0 9 (some 14) (.bool true) rfl hS3 ?_
 refine x0 10 (some 4) (.bool true) rfl hS3 ?_
 refine dn ?_
 try simp only[nn]
 replace LL:=Ab hS3
 clear hS3
 go_wp2_with fail
 go_ret
 exact⟨rfl,(Aa LL).below⟩
theorem turns_33 (n d:DD) (hn:FD n) (hd:FD d) (h1:Df d=3) (h2:Df n=3) (w:World):Calls prog 130 #[n.agg,d.agg] w fun e w'=>e= .returned (.bool (Ea n d))/\Below w.heap.size w w':=by
 have HD:=Ab (Da d hd)
 have HN:=Ab (Da n hn)
 clear hn hd
 have LL:=Ab (Kp.of2 (Lie.new2 w (.D n) (.D d)))
 unfold Ea
 rw[h1,h2]
 rw[h1] at HD
 rw[h2] at HN
 have hq0:=Gc n
 have hq1:=Gc d
 rw[hq0,hq1]
 clear hq0 hq1
 go_enter func130,ntmps130
 go_wp2_with fail
 refine wp_region_held_drew (P:=prog) (S:=fun X=>Kp w X [(w.heap.size, .D n),(w.heap.size+1, .D d)]) (by kernel_rfl) (Kp.drew (Aa LL)) (fun hS0=> ?_)
 refine x1 0 1 (some 5) (x:= .tmp 3) (b:=w.heap.size+1) (d:=d) rfl rfl hS0 ?_
 refine x2 1 (some 6) rfl (Aa HD _) hS0 (fun uw1 hS1=> ?_)
 clear hS0
 simp only[nn]
 refine x0 2 (some 7) (.bool true) rfl hS1 ?_
 refine x0 3 (some 8) (.bool true) rfl hS1 ?_
 refine x1 4 1 (some 9) (x:= .tmp 3) (b:=w.heap.size+1) (d:=d) rfl rfl hS1 ?_
 refine x1 6 0 (some 11) (x:= .tmp 2) (b:=w.heap.size) (d:=n) rfl rfl hS1 ?_
 refine x2 5 (some 10) rfl (Aa HD _) hS1 (fun uw2 hS2=> ?_)
 clear hS1
 simp only[nn]
 refine x2 7 (some 12) rfl (Aa HN _) hS2 (fun uw3 hS3=> ?_)
 clear hS2
 simp only[nn]
 refine x0 8 (some 13) (.bool false) rfl hS3 ?_
 refine x0 9 (some 14) (.bool false) rfl hS3 ?_
 refine x0 10 (some 4) (.bool false) rfl hS3 ?_
 refine dn ?_
 try simp only[nn]
 replace LL:=Ab hS3
 clear hS3
 go_wp2_with fail
 go_ret
 exact⟨rfl,(Aa LL).below⟩
theorem Li (d:DD):Df d=0∨Df d=1∨Df d=2∨Df d=3:=by
 unfold Df
 split
 ·exact Or.inl rfl
 ·split
  ·exact Or.inr (Or.inr (Or.inl rfl))
  ·split
   ·exact Or.inr (Or.inr (Or.inr rfl))
   ·exact Or.inr (Or.inl rfl)
theorem Zl (n d:DD) (hn:FD n) (hd:FD d) (w:World):Calls prog 130 #[n.agg,d.agg] w fun e w'=>e= .returned (.bool (Ea n d))/\Below w.heap.size w w':=by
 rcases Li d with h1|h1|h1|h1
 ·rcases Li n with h2|h2|h2|h2
  ·exact turns_00 n d hn hd h1 h2 w
  ·exact turns_01 n d hn hd h1 h2 w
  ·exact turns_02 n d hn hd h1 h2 w
  ·exact turns_03 n d hn hd h1 h2 w
 ·exact turns_1 n d hn hd h1 w
 ·rcases Li n with h2|h2|h2|h2
  ·exact turns_20 n d hn hd h1 h2 w
  ·exact turns_21 n d hn hd h1 h2 w
  ·exact turns_22 n d hn hd h1 h2 w
  ·exact turns_23 n d hn hd h1 h2 w
 ·rcases Li n with h2|h2|h2|h2
  ·exact turns_30 n d hn hd h1 h2 w
  ·exact turns_31 n d hn hd h1 h2 w
  ·exact turns_32 n d hn hd h1 h2 w
  ·exact turns_33 n d hn hd h1 h2 w

theorem Zg (n d:DD) (hn:FD n) (hd:FD d) (w:World) (hT:Lib.Utf8Tabs 1 2 w):Calls prog 113 #[n.agg,d.agg] w fun e w'=>e= .returned (.bool (Yc n d))/\Below w.heap.size w w':=by
 have HT:=Ab hT
 clear hT
 have HTu:=Ab (Zl n d hn hd)
 have HSh:=Ab (Da n hn)
 have HG:=Ab (fun w hT=>No n.g d.g hn.2.1 hd.2.1 w hT)
 have HS:=Ab (fun w hT=>No n.s d.s hn.2.2 hd.2.2 w hT)
 have HV:=Ab (fun w hT=>No n.v d.v hn.1 hd.1 w hT)
 clear hn hd
 have LL:=Ab (Lie.new2 w (.D n) (.D d))
 unfold Yc
 generalize Ea n d=tu at *
 generalize Df n=sh at *
 generalize ZbR n.g d.g=dg at *
 generalize ZbR n.s d.s=ds at *
 generalize ZbR n.v d.v=dv at *
 generalize hq2:(d.c==2)=q2 at *
 generalize hqe:(d.e !=0)=qe at *
 generalize hqn:(d.e !=n.e)=qn at *
 generalize hn1:(n.w==1)=n1 at *
 generalize hw2:(d.w==2)=w2 at *
 have hq0:=Gc n
 have hq1:=Gc d
 rw[hq0,hq1]
 clear hq0 hq1
 by_cases h3:sh=3
 ·subst h3
  go_enter func113,ntmps113
  cases q2
  ·cases qe
   ·go_wp2_with (first|go_skip|((with_reducible apply Av);(case ho|hw|hx=>rfl);(case hc=>first|exact(Aa LL).one|exact(Aa LL).two);simp only[nn])|((with_reducible apply Be);(case ho|hw|hx=>rfl);(case hc=>first|exact(Aa LL).one|exact(Aa LL).two);simp only[nn])|((with_reducible apply Bg);(case ho|hw|hx=>rfl);(case hc=>first|exact(Aa LL).one|exact(Aa LL).two);simp only[nn])|((with_reducible apply Bf);(case ho|hw|hx=>rfl);(case hc=>first|exact(Aa LL).one|exact(Aa LL).two);simp only[nn])|((with_reducible apply Az);(case ho|hw|hx=>rfl);(case hc=>first|exact(Aa LL).one|exact(Aa LL).two);simp only[nn])|((with_reducible apply Ay);(case ho|hw|hx=>rfl);(case hc=>first|exact(Aa LL).one|exact(Aa LL).two);simp only[nn])|((with_reducible apply Au);(case ho|hw|hx=>rfl);(case hc=>first|exact(Aa LL).one|exact(Aa LL).two);simp only[nn])|(go_at_call 119;refine(Ah _ _).mono ?_;rintro _ _ ⟨rfl,rfl⟩))
    refine(Aa HTu _).mono ?_
    rintro _ w16 ⟨rfl,hb⟩
    replace LL:=Ab ((Aa LL).on hb)
    clear hb
    cases tu
    ·go_wp2_with (first|go_skip|((with_reducible apply Av);(case ho|hw|hx=>rfl);(case hc=>first|exact(Aa LL).one|exact(Aa LL).two);simp only[nn])|((with_reducible apply Be);(case ho|hw|hx=>rfl);(case hc=>first|exact(Aa LL).one|exact(Aa LL).two);simp only[nn])|((with_reducible apply Bg);(case ho|hw|hx=>rfl);(case hc=>first|exact(Aa LL).one|exact(Aa LL).two);simp only[nn])|((with_reducible apply Bf);(case ho|hw|hx=>rfl);(case hc=>first|exact(Aa LL).one|exact(Aa LL).two);simp only[nn])|((with_reducible apply Az);(case ho|hw|hx=>rfl);(case hc=>first|exact(Aa LL).one|exact(Aa LL).two);simp only[nn])|((with_reducible apply Ay);(case ho|hw|hx=>rfl);(case hc=>first|exact(Aa LL).one|exact(Aa LL).two);simp only[nn])|((with_reducible apply Au);(case ho|hw|hx=>rfl);(case hc=>first|exact(Aa LL).one|exact(Aa LL).two);simp only[nn])|(go_at_call 119;refine(Ah _ _).mono ?_;rintro _ _ ⟨rfl,rfl⟩))
     refine(Aa HSh _).mono ?_
     rintro _ w17 ⟨rfl,hb⟩
     replace LL:=Ab ((Aa LL).on hb)
     clear hb
     go_wp2_with (first|go_skip|((with_reducible apply Av);(case ho|hw|hx=>rfl);(case hc=>first|exact(Aa LL).one|exact(Aa LL).two);simp only[nn])|((with_reducible apply Be);(case ho|hw|hx=>rfl);(case hc=>first|exact(Aa LL).one|exact(Aa LL).two);simp only[nn])|((with_reducible apply Bg);(case ho|hw|hx=>rfl);(case hc=>first|exact(Aa LL).one|exact(Aa LL).two);simp only[nn])|((with_reducible apply Bf);(case ho|hw|hx=>rfl);(case hc=>first|exact(Aa LL).one|exact(Aa LL).two);simp only[nn])|((with_reducible apply Az);(case ho|hw|hx=>rfl);(case hc=>first|exact(Aa LL).one|exact(Aa LL).two);simp only[nn])|((with_reducible apply Ay);(case ho|hw|hx=>rfl);(case hc=>first|exact(Aa LL).one|exact(Aa LL).two);simp only[nn])|((with_reducible apply Au);(case ho|hw|hx=>rfl);(case hc=>first|exact(Aa LL).one|exact(Aa LL).two);simp only[nn])|(go_at_call 119;refine(Ah _ _).mono ?_;rintro _ _ ⟨rfl,rfl⟩))
     refine(Aa HG _ (Al (Aa HT) (Aa LL).below)).mono ?_
     rintro _ w18 ⟨rfl,hb⟩
     replace LL:=Ab ((Aa LL).on hb)
     clear hb
     cases dg
     ·go_wp2_with (first|go_skip|((with_reducible apply Av);(case ho|hw|hx=>rfl);(case hc=>first|exact(Aa LL).one|exact(Aa LL).two);simp only[nn])|((with_reducible apply Be);(case ho|hw|hx=>rfl);(case hc=>first|exact(Aa LL).one|exact(Aa LL).two);simp only[nn])|((with_reducible apply Bg);(case ho|hw|hx=>rfl);(case hc=>first|exact(Aa LL).one|exact(Aa LL).two);simp only[nn])|((with_reducible apply Bf);(case ho|hw|hx=>rfl);(case hc=>first|exact(Aa LL).one|exact(Aa LL).two);simp only[nn])|((with_reducible apply Az);(case ho|hw|hx=>rfl);(case hc=>first|exact(Aa LL).one|exact(Aa LL).two);simp only[nn])|((with_reducible apply Ay);(case ho|hw|hx=>rfl);(case hc=>first|exact(Aa LL).one|exact(Aa LL).two);simp only[nn])|((with_reducible apply Au);(case ho|hw|hx=>rfl);(case hc=>first|exact(Aa LL).one|exact(Aa LL).two);simp only[nn])|(go_at_call 119;refine(Ah _ _).mono ?_;rintro _ _ ⟨rfl,rfl⟩))
      refine(Aa HS _ (Al (Aa HT) (Aa LL).below)).mono ?_
      rintro _ w19 ⟨rfl,hb⟩
      replace LL:=Ab ((Aa LL).on hb)
      clear hb
      go_wp2_with (first|go_skip|((with_reducible apply Av);(case ho|hw|hx=>rfl);(case hc=>first|exact(Aa LL).one|exact(Aa LL).two);simp only[nn])|((with_reducible apply Be);(case ho|hw|hx=>rfl);(case hc=>first|exact(Aa LL).one|exact(Aa LL).two);simp only[nn])|((with_reducible apply Bg);(case ho|hw|hx=>rfl);(case hc=>first|exact(Aa LL).one|exact(Aa LL).two);simp only[nn])|((with_reducible apply Bf);(case ho|hw|hx=>rfl);(case hc=>first|exact(Aa LL).one|exact(Aa LL).two);simp only[nn])|((with_reducible apply Az);(case ho|hw|hx=>rfl);(case hc=>first|exact(Aa LL).one|exact(Aa LL).two);simp only[nn])|((with_reducible apply Ay);(case ho|hw|hx=>rfl);(case hc=>first|exact(Aa LL).one|exact(Aa LL).two);simp only[nn])|((with_reducible apply Au);(case ho|hw|hx=>rfl);(case hc=>first|exact(Aa LL).one|exact(Aa LL).two);simp only[nn])|(go_at_call 119;refine(Ah _ _).mono ?_;rintro _ _ ⟨rfl,rfl⟩))
      go_ret
      exact⟨rfl,(Aa LL).below⟩
     ·go_wp2_with (first|go_skip|((with_reducible apply Av);(case ho|hw|hx=>rfl);(case hc=>first|exact(Aa LL).one|exact(Aa LL).two);simp only[nn])|((with_reducible apply Be);(case ho|hw|hx=>rfl);(case hc=>first|exact(Aa LL).one|exact(Aa LL).two);simp only[nn])|((with_reducible apply Bg);(case ho|hw|hx=>rfl);(case hc=>first|exact(Aa LL).one|exact(Aa LL).two);simp only[nn])|((with_reducible apply Bf);(case ho|hw|hx=>rfl);(case hc=>first|exact(Aa LL).one|exact(Aa LL).two);simp only[nn])|((with_reducible apply Az);(case ho|hw|hx=>rfl);(case hc=>first|exact(Aa LL).one|exact(Aa LL).two);simp only[nn])|((with_reducible apply Ay);(case ho|hw|hx=>rfl);(case hc=>first|exact(Aa LL).one|exact(Aa LL).two);simp only[nn])|((with_reducible apply Au);(case ho|hw|hx=>rfl);(case hc=>first|exact(Aa LL).one|exact(Aa LL).two);simp only[nn])|(go_at_call 119;refine(Ah _ _).mono ?_;rintro _ _ ⟨rfl,rfl⟩))
      go_ret
      exact⟨rfl,(Aa LL).below⟩
    ·go_wp2_with (first|go_skip|((with_reducible apply Av);(case ho|hw|hx=>rfl);(case hc=>first|exact(Aa LL).one|exact(Aa LL).two);simp only[nn])|((with_reducible apply Be);(case ho|hw|hx=>rfl);(case hc=>first|exact(Aa LL).one|exact(Aa LL).two);simp only[nn])|((with_reducible apply Bg);(case ho|hw|hx=>rfl);(case hc=>first|exact(Aa LL).one|exact(Aa LL).two);simp only[nn])|((with_reducible apply Bf);(case ho|hw|hx=>rfl);(case hc=>first|exact(Aa LL).one|exact(Aa LL).two);simp only[nn])|((with_reducible apply Az);(case ho|hw|hx=>rfl);(case hc=>first|exact(Aa LL).one|exact(Aa LL).two);simp only[nn])|((with_reducible apply Ay);(case ho|hw|hx=>rfl);(case hc=>first|exact(Aa LL).one|exact(Aa LL).two);simp only[nn])|((with_reducible apply Au);(case ho|hw|hx=>rfl);(case hc=>first|exact(Aa LL).one|exact(Aa LL).two);simp only[nn])|(go_at_call 119;refine(Ah _ _).mono ?_;rintro _ _ ⟨rfl,rfl⟩))
     go_ret
     exact⟨rfl,(Aa LL).below⟩
   ·cases qn
    ·go_wp2_with (first|go_skip|((with_reducible apply Av);(case ho|hw|hx=>rfl);(case hc=>first|exact(Aa LL).one|exact(Aa LL).two);simp only[nn])|((with_reducible apply Be);(case ho|hw|hx=>rfl);(case hc=>first|exact(Aa LL).one|exact(Aa LL).two);simp only[nn])|((with_reducible apply Bg);(case ho|hw|hx=>rfl);(case hc=>first|exact(Aa LL).one|exact(Aa LL).two);simp only[nn])|((with_reducible apply Bf);(case ho|hw|hx=>rfl);(case hc=>first|exact(Aa LL).one|exact(Aa LL).two);simp only[nn])|((with_reducible apply Az);(case ho|hw|hx=>rfl);(case hc=>first|exact(Aa LL).one|exact(Aa LL).two);simp only[nn])|((with_reducible apply Ay);(case ho|hw|hx=>rfl);(case hc=>first|exact(Aa LL).one|exact(Aa LL).two);simp only[nn])|((with_reducible apply Au);(case ho|hw|hx=>rfl);(case hc=>first|exact(Aa LL).one|exact(Aa LL).two);simp only[nn])|(go_at_call 119;refine(Ah _ _).mono ?_;rintro _ _ ⟨rfl,rfl⟩))
     refine(Aa HTu _).mono ?_
     rintro _ w22 ⟨rfl,hb⟩
     replace LL:=Ab ((Aa LL).on hb)
     clear hb
     cases tu
     ·go_wp2_with (first|go_skip|((with_reducible apply Av);(case ho|hw|hx=>rfl);(case hc=>first|exact(Aa LL).one|exact(Aa LL).two);simp only[nn])|((with_reducible apply Be);(case ho|hw|hx=>rfl);(case hc=>first|exact(Aa LL).one|exact(Aa LL).two);simp only[nn])|((with_reducible apply Bg);(case ho|hw|hx=>rfl);(case hc=>first|exact(Aa LL).one|exact(Aa LL).two);simp only[nn])|((with_reducible apply Bf);(case ho|hw|hx=>rfl);(case hc=>first|exact(Aa LL).one|exact(Aa LL).two);simp only[nn])|((with_reducible apply Az);(case ho|hw|hx=>rfl);(case hc=>first|exact(Aa LL).one|exact(Aa LL).two);simp only[nn])|((with_reducible apply Ay);(case ho|hw|hx=>rfl);(case hc=>first|exact(Aa LL).one|exact(Aa LL).two);simp only[nn])|((with_reducible apply Au);(case ho|hw|hx=>rfl);(case hc=>first|exact(Aa LL).one|exact(Aa LL).two);simp only[nn])|(go_at_call 119;refine(Ah _ _).mono ?_;rintro _ _ ⟨rfl,rfl⟩))
      refine(Aa HSh _).mono ?_
      rintro _ w23 ⟨rfl,hb⟩
      replace LL:=Ab ((Aa LL).on hb)
      clear hb
      go_wp2_with (first|go_skip|((with_reducible apply Av);(case ho|hw|hx=>rfl);(case hc=>first|exact(Aa LL).one|exact(Aa LL).two);simp only[nn])|((with_reducible apply Be);(case ho|hw|hx=>rfl);(case hc=>first|exact(Aa LL).one|exact(Aa LL).two);simp only[nn])|((with_reducible apply Bg);(case ho|hw|hx=>rfl);(case hc=>first|exact(Aa LL).one|exact(Aa LL).two);simp only[nn])|((with_reducible apply Bf);(case ho|hw|hx=>rfl);(case hc=>first|exact(Aa LL).one|exact(Aa LL).two);simp only[nn])|((with_reducible apply Az);(case ho|hw|hx=>rfl);(case hc=>first|exact(Aa LL).one|exact(Aa LL).two);simp only[nn])|((with_reducible apply Ay);(case ho|hw|hx=>rfl);(case hc=>first|exact(Aa LL).one|exact(Aa LL).two);simp only[nn])|((with_reducible apply Au);(case ho|hw|hx=>rfl);(case hc=>first|exact(Aa LL).one|exact(Aa LL).two);simp only[nn])|(go_at_call 119;refine(Ah _ _).mono ?_;rintro _ _ ⟨rfl,rfl⟩))
      refine(Aa HG _ (Al (Aa HT) (Aa LL).below)).mono ?_
      rintro _ w24 ⟨rfl,hb⟩
      replace LL:=Ab ((Aa LL).on hb)
      clear hb
      cases dg
      ·go_wp2_with (first|go_skip|((with_reducible apply Av);(case ho|hw|hx=>rfl);(case hc=>first|exact(Aa LL).one|exact(Aa LL).two);simp only[nn])|((with_reducible apply Be);(case ho|hw|hx=>rfl);(case hc=>first|exact(Aa LL).one|exact(Aa LL).two);simp only[nn])|((with_reducible apply Bg);(case ho|hw|hx=>rfl);(case hc=>first|exact(Aa LL).one|exact(Aa LL).two);simp only[nn])|((with_reducible apply Bf);(case ho|hw|hx=>rfl);(case hc=>first|exact(Aa LL).one|exact(Aa LL).two);simp only[nn])|((with_reducible apply Az);(case ho|hw|hx=>rfl);(case hc=>first|exact(Aa LL).one|exact(Aa LL).two);simp only[nn])|((with_reducible apply Ay);(case ho|hw|hx=>rfl);(case hc=>first|exact(Aa LL).one|exact(Aa LL).two);simp only[nn])|((with_reducible apply Au);(case ho|hw|hx=>rfl);(case hc=>first|exact(Aa LL).one|exact(Aa LL).two);simp only[nn])|(go_at_call 119;refine(Ah _ _).mono ?_;rintro _ _ ⟨rfl,rfl⟩))
       refine(Aa HS _ (Al (Aa HT) (Aa LL).below)).mono ?_
       rintro _ w25 ⟨rfl,hb⟩
       replace LL:=Ab ((Aa LL).on hb)
       clear hb
       go_wp2_with (first|go_skip|((with_reducible apply Av);(case ho|hw|hx=>rfl);(case hc=>first|exact(Aa LL).one|exact(Aa LL).two);simp only[nn])|((with_reducible apply Be);(case ho|hw|hx=>rfl);(case hc=>first|exact(Aa LL).one|exact(Aa LL).two);simp only[nn])|((with_reducible apply Bg);(case ho|hw|hx=>rfl);(case hc=>first|exact(Aa LL).one|exact(Aa LL).two);simp only[nn])|((with_reducible apply Bf);(case ho|hw|hx=>rfl);(case hc=>first|exact(Aa LL).one|exact(Aa LL).two);simp only[nn])|((with_reducible apply Az);(case ho|hw|hx=>rfl);(case hc=>first|exact(Aa LL).one|exact(Aa LL).two);simp only[nn])|((with_reducible apply Ay);(case ho|hw|hx=>rfl);(case hc=>first|exact(Aa LL).one|exact(Aa LL).two);simp only[nn])|((with_reducible apply Au);(case ho|hw|hx=>rfl);(case hc=>first|exact(Aa LL).one|exact(Aa LL).two);simp only[nn])|(go_at_call 119;refine(Ah _ _).mono ?_;rintro _ _ ⟨rfl,rfl⟩))
       go_ret
       exact⟨rfl,(Aa LL).below⟩
      ·go_wp2_with (first|go_skip|((with_reducible apply Av);(case ho|hw|hx=>rfl);(case hc=>first|exact(Aa LL).one|exact(Aa LL).two);simp only[nn])|((with_reducible apply Be);(case ho|hw|hx=>rfl);(case hc=>first|exact(Aa LL).one|exact(Aa LL).two);simp only[nn])|((with_reducible apply Bg);(case ho|hw|hx=>rfl);(case hc=>first|exact(Aa LL).one|exact(Aa LL).two);simp only[nn])|((with_reducible apply Bf);(case ho|hw|hx=>rfl);(case hc=>first|exact(Aa LL).one|exact(Aa LL).two);simp only[nn])|((with_reducible apply Az);(case ho|hw|hx=>rfl);(case hc=>first|exact(Aa LL).one|exact(Aa LL).two);simp only[nn])|((with_reducible apply Ay);(case ho|hw|hx=>rfl);(case hc=>first|exact(Aa LL).one|exact(Aa LL).two);simp only[nn])|((with_reducible apply Au);(case ho|hw|hx=>rfl);(case hc=>first|exact(Aa LL).one|exact(Aa LL).two);simp only[nn])|(go_at_call 119;refine(Ah _ _).mono ?_;rintro _ _ ⟨rfl,rfl⟩))
       go_ret
       exact⟨rfl,(Aa LL).below⟩
     ·go_wp2_with (first|go_skip|((with_reducible apply Av);(case ho|hw|hx=>rfl);(case hc=>first|exact(Aa LL).one|exact(Aa LL).two);simp only[nn])|((with_reducible apply Be);(case ho|hw|hx=>rfl);(case hc=>first|exact(Aa LL).one|exact(Aa LL).two);simp only[nn])|((with_reducible apply Bg);(case ho|hw|hx=>rfl);(case hc=>first|exact(Aa LL).one|exact(Aa LL).two);simp only[nn])|((with_reducible apply Bf);(case ho|hw|hx=>rfl);(case hc=>first|exact(Aa LL).one|exact(Aa LL).two);simp only[nn])|((with_reducible apply Az);(case ho|hw|hx=>rfl);(case hc=>first|exact(Aa LL).one|exact(Aa LL).two);simp only[nn])|((with_reducible apply Ay);(case ho|hw|hx=>rfl);(case hc=>first|exact(Aa LL).one|exact(Aa LL).two);simp only[nn])|((with_reducible apply Au);(case ho|hw|hx=>rfl);(case hc=>first|exact(Aa LL).one|exact(Aa LL).two);simp only[nn])|(go_at_call 119;refine(Ah _ _).mono ?_;rintro _ _ ⟨rfl,rfl⟩))
      go_ret
      exact⟨rfl,(Aa LL).below⟩
    ·go_wp2_with (first|go_skip|((with_reducible apply Av);(case ho|hw|hx=>rfl);(case hc=>first|exact(Aa LL).one|exact(Aa LL).two);simp only[nn])|((with_reducible apply Be);(case ho|hw|hx=>rfl);(case hc=>first|exact(Aa LL).one|exact(Aa LL).two);simp only[nn])|((with_reducible apply Bg);(case ho|hw|hx=>rfl);(case hc=>first|exact(Aa LL).one|exact(Aa LL).two);simp only[nn])|((with_reducible apply Bf);(case ho|hw|hx=>rfl);(case hc=>first|exact(Aa LL).one|exact(Aa LL).two);simp only[nn])|((with_reducible apply Az);(case ho|hw|hx=>rfl);(case hc=>first|exact(Aa LL).one|exact(Aa LL).two);simp only[nn])|((with_reducible apply Ay);(case ho|hw|hx=>rfl);(case hc=>first|exact(Aa LL).one|exact(Aa LL).two);simp only[nn])|((with_reducible apply Au);(case ho|hw|hx=>rfl);(case hc=>first|exact(Aa LL).one|exact(Aa LL).two);simp only[nn])|(go_at_call 119;refine(Ah _ _).mono ?_;rintro _ _ ⟨rfl,rfl⟩))
     go_ret
     exact⟨rfl,(Aa LL).below⟩
  ·go_wp2_with (first|go_skip|((with_reducible apply Av);(case ho|hw|hx=>rfl);(case hc=>first|exact(Aa LL).one|exact(Aa LL).two);simp only[nn])|((with_reducible apply Be);(case ho|hw|hx=>rfl);(case hc=>first|exact(Aa LL).one|exact(Aa LL).two);simp only[nn])|((with_reducible apply Bg);(case ho|hw|hx=>rfl);(case hc=>first|exact(Aa LL).one|exact(Aa LL).two);simp only[nn])|((with_reducible apply Bf);(case ho|hw|hx=>rfl);(case hc=>first|exact(Aa LL).one|exact(Aa LL).two);simp only[nn])|((with_reducible apply Az);(case ho|hw|hx=>rfl);(case hc=>first|exact(Aa LL).one|exact(Aa LL).two);simp only[nn])|((with_reducible apply Ay);(case ho|hw|hx=>rfl);(case hc=>first|exact(Aa LL).one|exact(Aa LL).two);simp only[nn])|((with_reducible apply Au);(case ho|hw|hx=>rfl);(case hc=>first|exact(Aa LL).one|exact(Aa LL).two);simp only[nn])|(go_at_call 119;refine(Ah _ _).mono ?_;rintro _ _ ⟨rfl,rfl⟩))
   go_ret
   exact⟨rfl,(Aa LL).below⟩
 ·have e3:(sh==3)=false:=by simp[h3]
  rw[e3]
  go_enter func113,ntmps113
  cases q2
  ·cases qe
   ·go_wp2_with (first|go_skip|((with_reducible apply Av);(case ho|hw|hx=>rfl);(case hc=>first|exact(Aa LL).one|exact(Aa LL).two);simp only[nn])|((with_reducible apply Be);(case ho|hw|hx=>rfl);(case hc=>first|exact(Aa LL).one|exact(Aa LL).two);simp only[nn])|((with_reducible apply Bg);(case ho|hw|hx=>rfl);(case hc=>first|exact(Aa LL).one|exact(Aa LL).two);simp only[nn])|((with_reducible apply Bf);(case ho|hw|hx=>rfl);(case hc=>first|exact(Aa LL).one|exact(Aa LL).two);simp only[nn])|((with_reducible apply Az);(case ho|hw|hx=>rfl);(case hc=>first|exact(Aa LL).one|exact(Aa LL).two);simp only[nn])|((with_reducible apply Ay);(case ho|hw|hx=>rfl);(case hc=>first|exact(Aa LL).one|exact(Aa LL).two);simp only[nn])|((with_reducible apply Au);(case ho|hw|hx=>rfl);(case hc=>first|exact(Aa LL).one|exact(Aa LL).two);simp only[nn])|(go_at_call 119;refine(Ah _ _).mono ?_;rintro _ _ ⟨rfl,rfl⟩))
    refine(Aa HTu _).mono ?_
    rintro _ w28 ⟨rfl,hb⟩
    replace LL:=Ab ((Aa LL).on hb)
    clear hb
    cases tu
    ·go_wp2_with (first|go_skip|((with_reducible apply Av);(case ho|hw|hx=>rfl);(case hc=>first|exact(Aa LL).one|exact(Aa LL).two);simp only[nn])|((with_reducible apply Be);(case ho|hw|hx=>rfl);(case hc=>first|exact(Aa LL).one|exact(Aa LL).two);simp only[nn])|((with_reducible apply Bg);(case ho|hw|hx=>rfl);(case hc=>first|exact(Aa LL).one|exact(Aa LL).two);simp only[nn])|((with_reducible apply Bf);(case ho|hw|hx=>rfl);(case hc=>first|exact(Aa LL).one|exact(Aa LL).two);simp only[nn])|((with_reducible apply Az);(case ho|hw|hx=>rfl);(case hc=>first|exact(Aa LL).one|exact(Aa LL).two);simp only[nn])|((with_reducible apply Ay);(case ho|hw|hx=>rfl);(case hc=>first|exact(Aa LL).one|exact(Aa LL).two);simp only[nn])|((with_reducible apply Au);(case ho|hw|hx=>rfl);(case hc=>first|exact(Aa LL).one|exact(Aa LL).two);simp only[nn])|(go_at_call 119;refine(Ah _ _).mono ?_;rintro _ _ ⟨rfl,rfl⟩))
     refine(Aa HSh _).mono ?_
     rintro _ w32 ⟨rfl,hb⟩
     replace LL:=Ab ((Aa LL).on hb)
     clear hb
     cases n1
     ·go_wp2_with (first|go_skip|((with_reducible apply Av);(case ho|hw|hx=>rfl);(case hc=>first|exact(Aa LL).one|exact(Aa LL).two);simp only[nn])|((with_reducible apply Be);(case ho|hw|hx=>rfl);(case hc=>first|exact(Aa LL).one|exact(Aa LL).two);simp only[nn])|((with_reducible apply Bg);(case ho|hw|hx=>rfl);(case hc=>first|exact(Aa LL).one|exact(Aa LL).two);simp only[nn])|((with_reducible apply Bf);(case ho|hw|hx=>rfl);(case hc=>first|exact(Aa LL).one|exact(Aa LL).two);simp only[nn])|((with_reducible apply Az);(case ho|hw|hx=>rfl);(case hc=>first|exact(Aa LL).one|exact(Aa LL).two);simp only[nn])|((with_reducible apply Ay);(case ho|hw|hx=>rfl);(case hc=>first|exact(Aa LL).one|exact(Aa LL).two);simp only[nn])|((with_reducible apply Au);(case ho|hw|hx=>rfl);(case hc=>first|exact(Aa LL).one|exact(Aa LL).two);simp only[nn])|(go_at_call 119;refine(Ah _ _).mono ?_;rintro _ _ ⟨rfl,rfl⟩))
      go_ret
      exact⟨rfl,(Aa LL).below⟩
     ·cases w2
      ·go_wp2_with (first|go_skip|((with_reducible apply Av);(case ho|hw|hx=>rfl);(case hc=>first|exact(Aa LL).one|exact(Aa LL).two);simp only[nn])|((with_reducible apply Be);(case ho|hw|hx=>rfl);(case hc=>first|exact(Aa LL).one|exact(Aa LL).two);simp only[nn])|((with_reducible apply Bg);(case ho|hw|hx=>rfl);(case hc=>first|exact(Aa LL).one|exact(Aa LL).two);simp only[nn])|((with_reducible apply Bf);(case ho|hw|hx=>rfl);(case hc=>first|exact(Aa LL).one|exact(Aa LL).two);simp only[nn])|((with_reducible apply Az);(case ho|hw|hx=>rfl);(case hc=>first|exact(Aa LL).one|exact(Aa LL).two);simp only[nn])|((with_reducible apply Ay);(case ho|hw|hx=>rfl);(case hc=>first|exact(Aa LL).one|exact(Aa LL).two);simp only[nn])|((with_reducible apply Au);(case ho|hw|hx=>rfl);(case hc=>first|exact(Aa LL).one|exact(Aa LL).two);simp only[nn])|(go_at_call 119;refine(Ah _ _).mono ?_;rintro _ _ ⟨rfl,rfl⟩))
       refine(Aa HV _ (Al (Aa HT) (Aa LL).below)).mono ?_
       rintro _ w33 ⟨rfl,hb⟩
       replace LL:=Ab ((Aa LL).on hb)
       clear hb
       go_wp2_with (first|go_skip|((with_reducible apply Av);(case ho|hw|hx=>rfl);(case hc=>first|exact(Aa LL).one|exact(Aa LL).two);simp only[nn])|((with_reducible apply Be);(case ho|hw|hx=>rfl);(case hc=>first|exact(Aa LL).one|exact(Aa LL).two);simp only[nn])|((with_reducible apply Bg);(case ho|hw|hx=>rfl);(case hc=>first|exact(Aa LL).one|exact(Aa LL).two);simp only[nn])|((with_reducible apply Bf);(case ho|hw|hx=>rfl);(case hc=>first|exact(Aa LL).one|exact(Aa LL).two);simp only[nn])|((with_reducible apply Az);(case ho|hw|hx=>rfl);(case hc=>first|exact(Aa LL).one|exact(Aa LL).two);simp only[nn])|((with_reducible apply Ay);(case ho|hw|hx=>rfl);(case hc=>first|exact(Aa LL).one|exact(Aa LL).two);simp only[nn])|((with_reducible apply Au);(case ho|hw|hx=>rfl);(case hc=>first|exact(Aa LL).one|exact(Aa LL).two);simp only[nn])|(go_at_call 119;refine(Ah _ _).mono ?_;rintro _ _ ⟨rfl,rfl⟩))
       go_ret
       exact⟨rfl,(Aa LL).below⟩
      ·go_wp2_with (first|go_skip|((with_reducible apply Av);(case ho|hw|hx=>rfl);(case hc=>first|exact(Aa LL).one|exact(Aa LL).two);simp only[nn])|((with_reducible apply Be);(case ho|hw|hx=>rfl);(case hc=>first|exact(Aa LL).one|exact(Aa LL).two);simp only[nn])|((with_reducible apply Bg);(case ho|hw|hx=>rfl);(case hc=>first|exact(Aa LL).one|exact(Aa LL).two);simp only[nn])|((with_reducible apply Bf);(case ho|hw|hx=>rfl);(case hc=>first|exact(Aa LL).one|exact(Aa LL).two);simp only[nn])|((with_reducible apply Az);(case ho|hw|hx=>rfl);(case hc=>first|exact(Aa LL).one|exact(Aa LL).two);simp only[nn])|((with_reducible apply Ay);(case ho|hw|hx=>rfl);(case hc=>first|exact(Aa LL).one|exact(Aa LL).two);simp only[nn])|((with_reducible apply Au);(case ho|hw|hx=>rfl);(case hc=>first|exact(Aa LL).one|exact(Aa LL).two);simp only[nn])|(go_at_call 119;refine(Ah _ _).mono ?_;rintro _ _ ⟨rfl,rfl⟩))
       go_ret
       exact⟨rfl,(Aa LL).below⟩
    ·go_wp2_with (first|go_skip|((with_reducible apply Av);(case ho|hw|hx=>rfl);(case hc=>first|exact(Aa LL).one|exact(Aa LL).two);simp only[nn])|((with_reducible apply Be);(case ho|hw|hx=>rfl);(case hc=>first|exact(Aa LL).one|exact(Aa LL).two);simp only[nn])|((with_reducible apply Bg);(case ho|hw|hx=>rfl);(case hc=>first|exact(Aa LL).one|exact(Aa LL).two);simp only[nn])|((with_reducible apply Bf);(case ho|hw|hx=>rfl);(case hc=>first|exact(Aa LL).one|exact(Aa LL).two);simp only[nn])|((with_reducible apply Az);(case ho|hw|hx=>rfl);(case hc=>first|exact(Aa LL).one|exact(Aa LL).two);simp only[nn])|((with_reducible apply Ay);(case ho|hw|hx=>rfl);(case hc=>first|exact(Aa LL).one|exact(Aa LL).two);simp only[nn])|((with_reducible apply Au);(case ho|hw|hx=>rfl);(case hc=>first|exact(Aa LL).one|exact(Aa LL).two);simp only[nn])|(go_at_call 119;refine(Ah _ _).mono ?_;rintro _ _ ⟨rfl,rfl⟩))
     go_ret
     exact⟨rfl,(Aa LL).below⟩
   ·cases qn
    ·go_wp2_with (first|go_skip|((with_reducible apply Av);(case ho|hw|hx=>rfl);(case hc=>first|exact(Aa LL).one|exact(Aa LL).two);simp only[nn])|((with_reducible apply Be);(case ho|hw|hx=>rfl);(case hc=>first|exact(Aa LL).one|exact(Aa LL).two);simp only[nn])|((with_reducible apply Bg);(case ho|hw|hx=>rfl);(case hc=>first|exact(Aa LL).one|exact(Aa LL).two);simp only[nn])|((with_reducible apply Bf);(case ho|hw|hx=>rfl);(case hc=>first|exact(Aa LL).one|exact(Aa LL).two);simp only[nn])|((with_reducible apply Az);(case ho|hw|hx=>rfl);(case hc=>first|exact(Aa LL).one|exact(Aa LL).two);simp only[nn])|((with_reducible apply Ay);(case ho|hw|hx=>rfl);(case hc=>first|exact(Aa LL).one|exact(Aa LL).two);simp only[nn])|((with_reducible apply Au);(case ho|hw|hx=>rfl);(case hc=>first|exact(Aa LL).one|exact(Aa LL).two);simp only[nn])|(go_at_call 119;refine(Ah _ _).mono ?_;rintro _ _ ⟨rfl,rfl⟩))
     refine(Aa HTu _).mono ?_
     rintro _ w34 ⟨rfl,hb⟩
     replace LL:=Ab ((Aa LL).on hb)
     clear hb
     cases tu
     ·go_wp2_with (first|go_skip|((with_reducible apply Av);(case ho|hw|hx=>rfl);(case hc=>first|exact(Aa LL).one|exact(Aa LL).two);simp only[nn])|((with_reducible apply Be);(case ho|hw|hx=>rfl);(case hc=>first|exact(Aa LL).one|exact(Aa LL).two);simp only[nn])|((with_reducible apply Bg);(case ho|hw|hx=>rfl);(case hc=>first|exact(Aa LL).one|exact(Aa LL).two);simp only[nn])|((with_reducible apply Bf);(case ho|hw|hx=>rfl);(case hc=>first|exact(Aa LL).one|exact(Aa LL).two);simp only[nn])|((with_reducible apply Az);(case ho|hw|hx=>rfl);(case hc=>first|exact(Aa LL).one|exact(Aa LL).two);simp only[nn])|((with_reducible apply Ay);(case ho|hw|hx=>rfl);(case hc=>first|exact(Aa LL).one|exact(Aa LL).two);simp only[nn])|((with_reducible apply Au);(case ho|hw|hx=>rfl);(case hc=>first|exact(Aa LL).one|exact(Aa LL).two);simp only[nn])|(go_at_call 119;refine(Ah _ _).mono ?_;rintro _ _ ⟨rfl,rfl⟩))
      refine(Aa HSh _).mono ?_
      rintro _ w38 ⟨rfl,hb⟩
      replace LL:=Ab ((Aa LL).on hb)
      clear hb
      cases n1
      ·go_wp2_with (first|go_skip|((with_reducible apply Av);(case ho|hw|hx=>rfl);(case hc=>first|exact(Aa LL).one|exact(Aa LL).two);simp only[nn])|((with_reducible apply Be);(case ho|hw|hx=>rfl);(case hc=>first|exact(Aa LL).one|exact(Aa LL).two);simp only[nn])|((with_reducible apply Bg);(case ho|hw|hx=>rfl);(case hc=>first|exact(Aa LL).one|exact(Aa LL).two);simp only[nn])|((with_reducible apply Bf);(case ho|hw|hx=>rfl);(case hc=>first|exact(Aa LL).one|exact(Aa LL).two);simp only[nn])|((with_reducible apply Az);(case ho|hw|hx=>rfl);(case hc=>first|exact(Aa LL).one|exact(Aa LL).two);simp only[nn])|((with_reducible apply Ay);(case ho|hw|hx=>rfl);(case hc=>first|exact(Aa LL).one|exact(Aa LL).two);simp only[nn])|((with_reducible apply Au);(case ho|hw|hx=>rfl);(case hc=>first|exact(Aa LL).one|exact(Aa LL).two);simp only[nn])|(go_at_call 119;refine(Ah _ _).mono ?_;rintro _ _ ⟨rfl,rfl⟩))
       go_ret
       exact⟨rfl,(Aa LL).below⟩
      ·cases w2
       ·go_wp2_with (first|go_skip|((with_reducible apply Av);(case ho|hw|hx=>rfl);(case hc=>first|exact(Aa LL).one|exact(Aa LL).two);simp only[nn])|((with_reducible apply Be);(case ho|hw|hx=>rfl);(case hc=>first|exact(Aa LL).one|exact(Aa LL).two);simp only[nn])|((with_reducible apply Bg);(case ho|hw|hx=>rfl);(case hc=>first|exact(Aa LL).one|exact(Aa LL).two);simp only[nn])|((with_reducible apply Bf);(case ho|hw|hx=>rfl);(case hc=>first|exact(Aa LL).one|exact(Aa LL).two);simp only[nn])|((with_reducible apply Az);(case ho|hw|hx=>rfl);(case hc=>first|exact(Aa LL).one|exact(Aa LL).two);simp only[nn])|((with_reducible apply Ay);(case ho|hw|hx=>rfl);(case hc=>first|exact(Aa LL).one|exact(Aa LL).two);simp only[nn])|((with_reducible apply Au);(case ho|hw|hx=>rfl);(case hc=>first|exact(Aa LL).one|exact(Aa LL).two);simp only[nn])|(go_at_call 119;refine(Ah _ _).mono ?_;rintro _ _ ⟨rfl,rfl⟩))
        refine(Aa HV _ (Al (Aa HT) (Aa LL).below)).mono ?_
        rintro _ w39 ⟨rfl,hb⟩
        replace LL:=Ab ((Aa LL).on hb)
        clear hb
        go_wp2_with (first|go_skip|((with_reducible apply Av);(case ho|hw|hx=>rfl);(case hc=>first|exact(Aa LL).one|exact(Aa LL).two);simp only[nn])|((with_reducible apply Be);(case ho|hw|hx=>rfl);(case hc=>first|exact(Aa LL).one|exact(Aa LL).two);simp only[nn])|((with_reducible apply Bg);(case ho|hw|hx=>rfl);(case hc=>first|exact(Aa LL).one|exact(Aa LL).two);simp only[nn])|((with_reducible apply Bf);(case ho|hw|hx=>rfl);(case hc=>first|exact(Aa LL).one|exact(Aa LL).two);simp only[nn])|((with_reducible apply Az);(case ho|hw|hx=>rfl);(case hc=>first|exact(Aa LL).one|exact(Aa LL).two);simp only[nn])|((with_reducible apply Ay);(case ho|hw|hx=>rfl);(case hc=>first|exact(Aa LL).one|exact(Aa LL).two);simp only[nn])|((with_reducible apply Au);(case ho|hw|hx=>rfl);(case hc=>first|exact(Aa LL).one|exact(Aa LL).two);simp only[nn])|(go_at_call 119;refine(Ah _ _).mono ?_;rintro _ _ ⟨rfl,rfl⟩))
        go_ret
        exact⟨rfl,(Aa LL).below⟩
       ·go_wp2_with (first|go_skip|((with_reducible apply Av);(case ho|hw|hx=>rfl);(case hc=>first|exact(Aa LL).one|exact(Aa LL).two);simp only[nn])|((with_reducible apply Be);(case ho|hw|hx=>rfl);(case hc=>first|exact(Aa LL).one|exact(Aa LL).two);simp only[nn])|((with_reducible apply Bg);(case ho|hw|hx=>rfl);(case hc=>first|exact(Aa LL).one|exact(Aa LL).two);simp only[nn])|((with_reducible apply Bf);(case ho|hw|hx=>rfl);(case hc=>first|exact(Aa LL).one|exact(Aa LL).two);simp only[nn])|((with_reducible apply Az);(case ho|hw|hx=>rfl);(case hc=>first|exact(Aa LL).one|exact(Aa LL).two);simp only[nn])|((with_reducible apply Ay);(case ho|hw|hx=>rfl);(case hc=>first|exact(Aa LL).one|exact(Aa LL).two);simp only[nn])|((with_reducible apply Au);(case ho|hw|hx=>rfl);(case hc=>first|exact(Aa LL).one|exact(Aa LL).two);simp only[nn])|(go_at_call 119;refine(Ah _ _).mono ?_;rintro _ _ ⟨rfl,rfl⟩))
        go_ret
        exact⟨rfl,(Aa LL).below⟩
     ·go_wp2_with (first|go_skip|((with_reducible apply Av);(case ho|hw|hx=>rfl);(case hc=>first|exact(Aa LL).one|exact(Aa LL).two);simp only[nn])|((with_reducible apply Be);(case ho|hw|hx=>rfl);(case hc=>first|exact(Aa LL).one|exact(Aa LL).two);simp only[nn])|((with_reducible apply Bg);(case ho|hw|hx=>rfl);(case hc=>first|exact(Aa LL).one|exact(Aa LL).two);simp only[nn])|((with_reducible apply Bf);(case ho|hw|hx=>rfl);(case hc=>first|exact(Aa LL).one|exact(Aa LL).two);simp only[nn])|((with_reducible apply Az);(case ho|hw|hx=>rfl);(case hc=>first|exact(Aa LL).one|exact(Aa LL).two);simp only[nn])|((with_reducible apply Ay);(case ho|hw|hx=>rfl);(case hc=>first|exact(Aa LL).one|exact(Aa LL).two);simp only[nn])|((with_reducible apply Au);(case ho|hw|hx=>rfl);(case hc=>first|exact(Aa LL).one|exact(Aa LL).two);simp only[nn])|(go_at_call 119;refine(Ah _ _).mono ?_;rintro _ _ ⟨rfl,rfl⟩))
      go_ret
      exact⟨rfl,(Aa LL).below⟩
    ·go_wp2_with (first|go_skip|((with_reducible apply Av);(case ho|hw|hx=>rfl);(case hc=>first|exact(Aa LL).one|exact(Aa LL).two);simp only[nn])|((with_reducible apply Be);(case ho|hw|hx=>rfl);(case hc=>first|exact(Aa LL).one|exact(Aa LL).two);simp only[nn])|((with_reducible apply Bg);(case ho|hw|hx=>rfl);(case hc=>first|exact(Aa LL).one|exact(Aa LL).two);simp only[nn])|((with_reducible apply Bf);(case ho|hw|hx=>rfl);(case hc=>first|exact(Aa LL).one|exact(Aa LL).two);simp only[nn])|((with_reducible apply Az);(case ho|hw|hx=>rfl);(case hc=>first|exact(Aa LL).one|exact(Aa LL).two);simp only[nn])|((with_reducible apply Ay);(case ho|hw|hx=>rfl);(case hc=>first|exact(Aa LL).one|exact(Aa LL).two);simp only[nn])|((with_reducible apply Au);(case ho|hw|hx=>rfl);(case hc=>first|exact(Aa LL).one|exact(Aa LL).two);simp only[nn])|(go_at_call 119;refine(Ah _ _).mono ?_;rintro _ _ ⟨rfl,rfl⟩))
     go_ret
     exact⟨rfl,(Aa LL).below⟩
  ·go_wp2_with (first|go_skip|((with_reducible apply Av);(case ho|hw|hx=>rfl);(case hc=>first|exact(Aa LL).one|exact(Aa LL).two);simp only[nn])|((with_reducible apply Be);(case ho|hw|hx=>rfl);(case hc=>first|exact(Aa LL).one|exact(Aa LL).two);simp only[nn])|((with_reducible apply Bg);(case ho|hw|hx=>rfl);(case hc=>first|exact(Aa LL).one|exact(Aa LL).two);simp only[nn])|((with_reducible apply Bf);(case ho|hw|hx=>rfl);(case hc=>first|exact(Aa LL).one|exact(Aa LL).two);simp only[nn])|((with_reducible apply Az);(case ho|hw|hx=>rfl);(case hc=>first|exact(Aa LL).one|exact(Aa LL).two);simp only[nn])|((with_reducible apply Ay);(case ho|hw|hx=>rfl);(case hc=>first|exact(Aa LL).one|exact(Aa LL).two);simp only[nn])|((with_reducible apply Au);(case ho|hw|hx=>rfl);(case hc=>first|exact(Aa LL).one|exact(Aa LL).two);simp only[nn])|(go_at_call 119;refine(Ah _ _).mono ?_;rintro _ _ ⟨rfl,rfl⟩))
   go_ret
   exact⟨rfl,(Aa LL).below⟩
