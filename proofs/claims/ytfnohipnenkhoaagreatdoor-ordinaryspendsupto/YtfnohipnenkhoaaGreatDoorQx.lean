import Derived.Test.YtfnohipnenkhoaaGreatDoorQn
set_option linter.all false
namespace Go.Proofs.YtfnohipnenkhoaaGreatDoor
set_option maxRecDepth 100000
set_option maxHeartbeats 0
section
open Go Go.Proofs Go.RowKit FM Tryz
def orT (t a:Int):Int:=if t !=0 then t else a
def Kw (d:DD):DD:=if Dg d==3 then ⟨d.v,orV d.g Dp,orV d.s Dp,d.w,orT d.e 1,orT d.c 1⟩ else ⟨orV d.v Dp,d.g,d.s,orT d.w 1,orT d.e 1,orT d.c 1⟩
theorem Zar (d:DD) (hs:d.v.s.size<=1048576) (w:World):Calls prog 96 #[d.agg] w fun e w'=>e= .returned d.agg/\Below w.heap.size w w':=by
 have HC:=Ab (fun w=>ZaT d.v.s w hs)
 have LL:=Ab (Lie.new2 w (.D d) (.D Ak))
 have hq0:=Ja d
 rw[hq0]
 clear hq0
 go_enter func96,ntmps96
 go_wp2_with (go_skip)
 refine(Aa HC _).mono ?_
 rintro _ w1 ⟨rfl,hb⟩
 replace LL:=Ab ((Aa LL).on hb)
 clear hb
 go_wp2_with (first|go_skip|((with_reducible apply De);(case ho=>rfl);(case hw=>rfl);(case hx=>rfl);(case hc=>first|exact(Aa LL).one|exact(Aa LL).two);simp only[nn])|((with_reducible apply Km 1);(case ho=>rfl);(case hL=>exact Aa LL);(case hi=>rfl);(case hx=>rfl);(case hw=>rfl);(case hy=>rfl);(intro X LX;simp only[nn];replace LL:=Ab LX;clear LX))|((with_reducible apply store9 0);(case ho=>rfl);(case hL=>exact Aa LL);(case hi=>rfl);(case hx=>rfl);(case hw=>rfl);(case hy=>rfl);(intro X LX;simp only[nn];replace LL:=Ab LX;clear LX)))
 refine Zb3 rfl rfl rfl (Aa LL).two ?_
 exact⟨rfl,(Aa LL).below⟩
theorem Yo (t a:Int) (w:World):Calls prog 114 #[.int .i64 t, .int .i64 a] w fun e w'=>e= .returned (.int .i64 (orT t a))/\w'=w:=Zem t a w
theorem Lie.putv {w W:World} {d:DD} {l:List PB} (h:Lie w W (.D d::l)) (u:VV):Lie w (W.setCells w.heap.size 0 u.cs) (.D {d with v:=u}::l):=
 Lie.put (i:=0) (o:=0) (vs:=u.cs) (p:= .D {d with v:=u}) (q:= .D d) h rfl (fun hq=>Lies.setv hq)
theorem Lie.putg {w W:World} {d:DD} {l:List PB} (h:Lie w W (.D d::l)) (u:VV):Lie w (W.setCells w.heap.size 5 u.cs) (.D {d with g:=u}::l):=
 Lie.put (i:=0) (o:=5) (vs:=u.cs) (p:= .D {d with g:=u}) (q:= .D d) h rfl (fun hq=>Lies.setg hq)
theorem Lie.puts {w W:World} {d:DD} {l:List PB} (h:Lie w W (.D d::l)) (u:VV):Lie w (W.setCells w.heap.size 10 u.cs) (.D {d with s:=u}::l):=
 Lie.put (i:=0) (o:=10) (vs:=u.cs) (p:= .D {d with s:=u}) (q:= .D d) h rfl (fun hq=>Lies.sets hq)
attribute [local go_sem] Eg
theorem Zad (d:DD) (hd:FD d) (w:World):Calls prog 97 #[d.agg] w fun e w'=>e= .returned (Kw d).agg/\Below w.heap.size w w':=by
 have HB:=Ab (Dd d hd)
 have HU:=Ab (Gm)
 have HV:=Ab (Kj d.v Dp hd.1)
 have HG:=Ab (Kj d.g Dp hd.2.1)
 have HS:=Ab (Kj d.s Dp hd.2.2)
 clear hd
 have LL:=Ab (Lie.new2 w (.D d) (.D Ak))
 unfold Kw
 generalize Dg d=sh at *
 unfold VV.agg at HU HV HG HS
 dsimp only at HU
 have hq0:=Ja d
 rw[hq0]
 clear hq0
 by_cases h3:sh=3
 ·subst h3
  go_enter func97,ntmps97
  go_wp2_with (first|go_skip|((with_reducible apply De);(case ho=>rfl);(case hw=>rfl);(case hx=>rfl);(case hc=>first|exact(Aa LL).one|exact(Aa LL).two);simp only[nn]))
  refine(Aa HB _).mono ?_
  rintro _ w1 ⟨rfl,hb⟩
  replace LL:=Ab ((Aa LL).on hb)
  clear hb
  go_wp2_with fail
  obtain⟨f0,c0,c1,c2,c3,c4,c5,c6,c7,c8,c9,c10,c11,c12,c13,c14,c15,c16,c17⟩:=(Aa LL).one
  try dsimp only at f0 c0 c1 c2 c3 c4 c5 c6 c7 c8 c9 c10 c11 c12 c13 c14 c15 c16 c17
  go_region_with (first|(go_at_call 113;refine(Aa HU _).mono ?_;rintro _ wu ⟨rfl,hbwu⟩;have LU:=Ab ((Aa LL).drew.on hbwu);clear f0 c0 c1 c2 c3 c4 c5 c6 c7 c8 c9 c10 c11 c12 c13 c14 c15 c16 c17;obtain⟨f0,c0,c1,c2,c3,c4,c5,c6,c7,c8,c9,c10,c11,c12,c13,c14,c15,c16,c17⟩:=(Aa LU).one;try dsimp only at f0 c0 c1 c2 c3 c4 c5 c6 c7 c8 c9 c10 c11 c12 c13 c14 c15 c16 c17)|(go_at_call 112;refine(Aa HG _).mono ?_;rintro _ wv ⟨rfl,hbwv⟩;have LV:=Ab ((Aa LU).on hbwv);clear f0 c0 c1 c2 c3 c4 c5 c6 c7 c8 c9 c10 c11 c12 c13 c14 c15 c16 c17;obtain⟨f0,c0,c1,c2,c3,c4,c5,c6,c7,c8,c9,c10,c11,c12,c13,c14,c15,c16,c17⟩:=(Aa LV).one;try dsimp only at f0 c0 c1 c2 c3 c4 c5 c6 c7 c8 c9 c10 c11 c12 c13 c14 c15 c16 c17))
  all_goals
   clear hbwu hbwv LU f0 c0 c1 c2 c3 c4 c5 c6 c7 c8 c9 c10 c11 c12 c13 c14 c15 c16 c17
   have LX:Lie w (World.setCell (World.setCell (World.setCell (World.setCell (World.setCell wv ⟨w.heap.size,5,none⟩ (.int .i64 (orV d.g Dp).k)) ⟨w.heap.size,6,none⟩ (.bool (orV d.g Dp).b)) ⟨w.heap.size,7,none⟩ (.float .f64 (orV d.g Dp).x)) ⟨w.heap.size,8,none⟩ (.string (orV d.g Dp).s)) ⟨w.heap.size,9,none⟩ (.int .i64 (orV d.g Dp).i)) [.D {d with g:=orV d.g Dp}, .D Ak]:=(Aa LV).putg (orV d.g Dp)
   replace LL:=Ab LX
   clear LV LX
   generalize (World.setCell (World.setCell (World.setCell (World.setCell (World.setCell wv ⟨w.heap.size,5,none⟩ (.int .i64 (orV d.g Dp).k)) ⟨w.heap.size,6,none⟩ (.bool (orV d.g Dp).b)) ⟨w.heap.size,7,none⟩ (.float .f64 (orV d.g Dp).x)) ⟨w.heap.size,8,none⟩ (.string (orV d.g Dp).s)) ⟨w.heap.size,9,none⟩ (.int .i64 (orV d.g Dp).i))=X at LL ⊢
  all_goals
   go_wp2_with fail
   obtain⟨f0,c0,c1,c2,c3,c4,c5,c6,c7,c8,c9,c10,c11,c12,c13,c14,c15,c16,c17⟩:=(Aa LL).one
   try dsimp only at f0 c0 c1 c2 c3 c4 c5 c6 c7 c8 c9 c10 c11 c12 c13 c14 c15 c16 c17
   go_region_with (first|(go_at_call 113;refine(Aa HU _).mono ?_;rintro _ wu ⟨rfl,hbwu⟩;have LU:=Ab ((Aa LL).drew.on hbwu);clear f0 c0 c1 c2 c3 c4 c5 c6 c7 c8 c9 c10 c11 c12 c13 c14 c15 c16 c17;obtain⟨f0,c0,c1,c2,c3,c4,c5,c6,c7,c8,c9,c10,c11,c12,c13,c14,c15,c16,c17⟩:=(Aa LU).one;try dsimp only at f0 c0 c1 c2 c3 c4 c5 c6 c7 c8 c9 c10 c11 c12 c13 c14 c15 c16 c17)|(go_at_call 112;refine(Aa HS _).mono ?_;rintro _ wv ⟨rfl,hbwv⟩;have LV:=Ab ((Aa LU).on hbwv);clear f0 c0 c1 c2 c3 c4 c5 c6 c7 c8 c9 c10 c11 c12 c13 c14 c15 c16 c17;obtain⟨f0,c0,c1,c2,c3,c4,c5,c6,c7,c8,c9,c10,c11,c12,c13,c14,c15,c16,c17⟩:=(Aa LV).one;try dsimp only at f0 c0 c1 c2 c3 c4 c5 c6 c7 c8 c9 c10 c11 c12 c13 c14 c15 c16 c17))
   all_goals
    clear hbwu hbwv LU f0 c0 c1 c2 c3 c4 c5 c6 c7 c8 c9 c10 c11 c12 c13 c14 c15 c16 c17
    have LX:Lie w (World.setCell (World.setCell (World.setCell (World.setCell (World.setCell wv ⟨w.heap.size,10,none⟩ (.int .i64 (orV d.s Dp).k)) ⟨w.heap.size,11,none⟩ (.bool (orV d.s Dp).b)) ⟨w.heap.size,12,none⟩ (.float .f64 (orV d.s Dp).x)) ⟨w.heap.size,13,none⟩ (.string (orV d.s Dp).s)) ⟨w.heap.size,14,none⟩ (.int .i64 (orV d.s Dp).i)) [.D {{d with g:=orV d.g Dp} with s:=orV d.s Dp}, .D Ak]:=(Aa LV).puts (orV d.s Dp)
    replace LL:=Ab LX
    clear LV LX
    generalize (World.setCell (World.setCell (World.setCell (World.setCell (World.setCell wv ⟨w.heap.size,10,none⟩ (.int .i64 (orV d.s Dp).k)) ⟨w.heap.size,11,none⟩ (.bool (orV d.s Dp).b)) ⟨w.heap.size,12,none⟩ (.float .f64 (orV d.s Dp).x)) ⟨w.heap.size,13,none⟩ (.string (orV d.s Dp).s)) ⟨w.heap.size,14,none⟩ (.int .i64 (orV d.s Dp).i))=X at LL ⊢
   all_goals
    go_wp2_with (first|go_skip|((with_reducible apply De);(case ho=>rfl);(case hw=>rfl);(case hx=>rfl);(case hc=>first|exact(Aa LL).one);simp only[nn])|((with_reducible apply En);(case ho=>rfl);(case hw=>rfl);(case hx=>rfl);(case hc=>first|exact(Aa LL).one);simp only[nn])|((with_reducible apply Ev);(case ho=>rfl);(case hw=>rfl);(case hx=>rfl);(case hc=>first|exact(Aa LL).one);simp only[nn])|((with_reducible apply Yy 0);(case ho=>rfl);(case hw=>rfl);(case hL=>exact Aa LL);(case hi=>rfl);(case hx=>rfl);(case hy=>rfl);(intro X LX;simp only[nn];replace LL:=Ab LX;clear LX))|((with_reducible apply Yz 0);(case ho=>rfl);(case hw=>rfl);(case hL=>exact Aa LL);(case hi=>rfl);(case hx=>rfl);(case hy=>rfl);(intro X LX;simp only[nn];replace LL:=Ab LX;clear LX))|((with_reducible apply Km 1);(case ho=>rfl);(case hw=>rfl);(case hL=>exact Aa LL);(case hi=>rfl);(case hx=>rfl);(case hy=>rfl);(intro X LX;simp only[nn];replace LL:=Ab LX;clear LX))|(go_at_call 114;refine(Yo _ _ _).mono ?_;rintro _ _ ⟨rfl,rfl⟩))
    refine Zb3 rfl rfl rfl (Aa LL).two ?_
    exact⟨rfl,(Aa LL).below⟩
 ·have e3:(sh==3)=false:=by simp[h3]
  rw[e3]
  go_enter func97,ntmps97
  go_wp2_with (first|go_skip|((with_reducible apply De);(case ho=>rfl);(case hw=>rfl);(case hx=>rfl);(case hc=>first|exact(Aa LL).one|exact(Aa LL).two);simp only[nn]))
  refine(Aa HB _).mono ?_
  rintro _ w2 ⟨rfl,hb⟩
  replace LL:=Ab ((Aa LL).on hb)
  clear hb
  go_wp2_with fail
  obtain⟨f0,c0,c1,c2,c3,c4,c5,c6,c7,c8,c9,c10,c11,c12,c13,c14,c15,c16,c17⟩:=(Aa LL).one
  try dsimp only at f0 c0 c1 c2 c3 c4 c5 c6 c7 c8 c9 c10 c11 c12 c13 c14 c15 c16 c17
  go_region_with (first|(go_at_call 113;refine(Aa HU _).mono ?_;rintro _ wu ⟨rfl,hbwu⟩;have LU:=Ab ((Aa LL).drew.on hbwu);clear f0 c0 c1 c2 c3 c4 c5 c6 c7 c8 c9 c10 c11 c12 c13 c14 c15 c16 c17;obtain⟨f0,c0,c1,c2,c3,c4,c5,c6,c7,c8,c9,c10,c11,c12,c13,c14,c15,c16,c17⟩:=(Aa LU).one;try dsimp only at f0 c0 c1 c2 c3 c4 c5 c6 c7 c8 c9 c10 c11 c12 c13 c14 c15 c16 c17)|(go_at_call 112;refine(Aa HV _).mono ?_;rintro _ wv ⟨rfl,hbwv⟩;have LV:=Ab ((Aa LU).on hbwv);clear f0 c0 c1 c2 c3 c4 c5 c6 c7 c8 c9 c10 c11 c12 c13 c14 c15 c16 c17;obtain⟨f0,c0,c1,c2,c3,c4,c5,c6,c7,c8,c9,c10,c11,c12,c13,c14,c15,c16,c17⟩:=(Aa LV).one;try dsimp only at f0 c0 c1 c2 c3 c4 c5 c6 c7 c8 c9 c10 c11 c12 c13 c14 c15 c16 c17))
  all_goals
   clear hbwu hbwv LU f0 c0 c1 c2 c3 c4 c5 c6 c7 c8 c9 c10 c11 c12 c13 c14 c15 c16 c17
   have LX:Lie w (World.setCell (World.setCell (World.setCell (World.setCell (World.setCell wv ⟨w.heap.size,0,none⟩ (.int .i64 (orV d.v Dp).k)) ⟨w.heap.size,1,none⟩ (.bool (orV d.v Dp).b)) ⟨w.heap.size,2,none⟩ (.float .f64 (orV d.v Dp).x)) ⟨w.heap.size,3,none⟩ (.string (orV d.v Dp).s)) ⟨w.heap.size,4,none⟩ (.int .i64 (orV d.v Dp).i)) [.D {d with v:=orV d.v Dp}, .D Ak]:=(Aa LV).putv (orV d.v Dp)
   replace LL:=Ab LX
   clear LV LX
   generalize (World.setCell (World.setCell (World.setCell (World.setCell (World.setCell wv ⟨w.heap.size,0,none⟩ (.int .i64 (orV d.v Dp).k)) ⟨w.heap.size,1,none⟩ (.bool (orV d.v Dp).b)) ⟨w.heap.size,2,none⟩ (.float .f64 (orV d.v Dp).x)) ⟨w.heap.size,3,none⟩ (.string (orV d.v Dp).s)) ⟨w.heap.size,4,none⟩ (.int .i64 (orV d.v Dp).i))=X at LL ⊢
  all_goals
   go_wp2_with (first|go_skip|((with_reducible apply De);(case ho=>rfl);(case hw=>rfl);(case hx=>rfl);(case hc=>first|exact(Aa LL).one);simp only[nn])|((with_reducible apply Ks);(case ho=>rfl);(case hw=>rfl);(case hx=>rfl);(case hc=>first|exact(Aa LL).one);simp only[nn])|((with_reducible apply En);(case ho=>rfl);(case hw=>rfl);(case hx=>rfl);(case hc=>first|exact(Aa LL).one);simp only[nn])|((with_reducible apply Ev);(case ho=>rfl);(case hw=>rfl);(case hx=>rfl);(case hc=>first|exact(Aa LL).one);simp only[nn])|((with_reducible apply store25w 0);(case ho=>rfl);(case hw=>rfl);(case hL=>exact Aa LL);(case hi=>rfl);(case hx=>rfl);(case hy=>rfl);(intro X LX;simp only[nn];replace LL:=Ab LX;clear LX))|((with_reducible apply Yy 0);(case ho=>rfl);(case hw=>rfl);(case hL=>exact Aa LL);(case hi=>rfl);(case hx=>rfl);(case hy=>rfl);(intro X LX;simp only[nn];replace LL:=Ab LX;clear LX))|((with_reducible apply Yz 0);(case ho=>rfl);(case hw=>rfl);(case hL=>exact Aa LL);(case hi=>rfl);(case hx=>rfl);(case hy=>rfl);(intro X LX;simp only[nn];replace LL:=Ab LX;clear LX))|((with_reducible apply Km 1);(case ho=>rfl);(case hw=>rfl);(case hL=>exact Aa LL);(case hi=>rfl);(case hx=>rfl);(case hy=>rfl);(intro X LX;simp only[nn];replace LL:=Ab LX;clear LX))|(go_at_call 114;refine(Yo _ _ _).mono ?_;rintro _ _ ⟨rfl,rfl⟩))
   refine Zb3 rfl rfl rfl (Aa LL).two ?_
   exact⟨rfl,(Aa LL).below⟩
end
section
open Go Go.Proofs Go.RowKit FM
theorem good_str {v:VV} (h:v.good=true):v.s.size<=1048576:=by
 have e0:ByteArray.empty.size<=1048576:=by decide
 obtain⟨k,b,x,s,i⟩:=v
 rcases Gr h with ⟨_,_,_,rfl,_⟩|⟨_,_,_,rfl,_⟩|⟨_,_,rfl,_⟩|⟨_,_,rfl,_⟩|⟨_,_,_,_,hf⟩|⟨_,_,_,rfl,_⟩|⟨_,_,_,rfl,_⟩
 ·exact e0
 ·exact e0
 ·exact e0
 ·exact e0
 ·unfold Zab at hf
  simp at hf
  exact hf.1
 ·exact e0
 ·exact e0
theorem Zcf {v:VV} (h:thV v=false):v.s.size<=1048576:=by
 unfold thV at h
 simp only[Bool.not_eq_false',Bool.and_eq_true] at h
 rw[Uq h.1.2]
 decide
theorem Vb {d:DD} (h:Ka d=true):d.v.s.size<=1048576:=by
 unfold Ka at h
 simp only[Bool.and_eq_true,Bool.or_eq_true,Bool.not_eq_true'] at h
 rcases h.1.1.1.1.1 with h|h
 ·exact Zcf h
 ·exact good_str h
theorem Qw {d:DD} (h: ¬Jj d=0):Ka d=true:=by
 unfold Jj at h
 cases hs:Ka d
 ·rw[hs] at h
  exact absurd rfl h
 ·rfl
theorem or_str {v:VV} (h:v.s.size<=1048576):(orV v Dp).s.size<=1048576:=by
 unfold orV
 cases thV v
 ·show Dp.s.size<=1048576
  decide
 ·exact h
theorem Zct {d:DD} (h:d.v.s.size<=1048576):(Kw d).v.s.size<=1048576:=by
 unfold Kw
 cases Dg d==3
 ·exact or_str h
 ·exact h
def eqD (a b:DD):Bool:=eqB a.v b.v && eqB a.g b.g && eqB a.s b.s && a.w==b.w && a.e==b.e && a.c==b.c
theorem Zd8 (a b:DD) (w:World):Calls Tryz.prog 16 #[a.agg,b.agg] w fun e w'=>e= .returned (.bool (eqD a b))/\Below w.heap.size w w':=by
 have HV:=Ab (Ra a.v b.v)
 have HG:=Ab (Ra a.g b.g)
 have HS:=Ab (Ra a.s b.s)
 have LL:=Ab (Lie.new2 w (.D a) (.D b))
 unfold eqD
 generalize eqB a.v b.v=ev at *
 generalize eqB a.g b.g=eg at *
 generalize eqB a.s b.s=es at *
 generalize hqw:(a.w==b.w)=qw at *
 generalize hqe:(a.e==b.e)=qe at *
 generalize hqc:(a.c==b.c)=qc at *
 have hq0:=Ja a
 have hq1:=Ja b
 rw[hq0,hq1]
 clear hq0 hq1
 go_enter Tryz.func16,Tryz.ntmps16
 go_wp2_with (first|go_skip|((with_reducible apply Yq);(case ho=>rfl);(case hw=>rfl);(case hx=>rfl);(case hc=>first|exact(Aa LL).one|exact(Aa LL).two);simp only[nn]))
 refine(Aa HV _).mono ?_
 rintro _ w11 ⟨rfl,hb⟩
 replace LL:=Ab ((Aa LL).on hb)
 clear hb
 cases ev
 ·go_wp2_with (go_skip)
  go_ret
  exact⟨rfl,(Aa LL).below⟩
 ·go_wp2_with (first|go_skip|((with_reducible apply Ys);(case ho=>rfl);(case hw=>rfl);(case hx=>rfl);(case hc=>first|exact(Aa LL).one|exact(Aa LL).two);simp only[nn]))
  refine(Aa HG _).mono ?_
  rintro _ w12 ⟨rfl,hb⟩
  replace LL:=Ab ((Aa LL).on hb)
  clear hb
  cases eg
  ·go_wp2_with (go_skip)
   go_ret
   exact⟨rfl,(Aa LL).below⟩
  ·go_wp2_with (first|go_skip|((with_reducible apply Yr);(case ho=>rfl);(case hw=>rfl);(case hx=>rfl);(case hc=>first|exact(Aa LL).one|exact(Aa LL).two);simp only[nn]))
   refine(Aa HS _).mono ?_
   rintro _ w13 ⟨rfl,hb⟩
   replace LL:=Ab ((Aa LL).on hb)
   clear hb
   cases es
   ·go_wp2_with (go_skip)
    go_ret
    exact⟨rfl,(Aa LL).below⟩
   ·cases qw
    ·go_wp2_with (first|go_skip|((with_reducible apply Ks);(case ho=>rfl);(case hw=>rfl);(case hx=>rfl);(case hc=>first|exact(Aa LL).one|exact(Aa LL).two);simp only[nn]))
     go_ret
     exact⟨rfl,(Aa LL).below⟩
    ·cases qe
     ·go_wp2_with (first|go_skip|((with_reducible apply Ks);(case ho=>rfl);(case hw=>rfl);(case hx=>rfl);(case hc=>first|exact(Aa LL).one|exact(Aa LL).two);simp only[nn])|((with_reducible apply En);(case ho=>rfl);(case hw=>rfl);(case hx=>rfl);(case hc=>first|exact(Aa LL).one|exact(Aa LL).two);simp only[nn]))
      go_ret
      exact⟨rfl,(Aa LL).below⟩
     ·go_wp2_with (first|go_skip|((with_reducible apply Ks);(case ho=>rfl);(case hw=>rfl);(case hx=>rfl);(case hc=>first|exact(Aa LL).one|exact(Aa LL).two);simp only[nn])|((with_reducible apply En);(case ho=>rfl);(case hw=>rfl);(case hx=>rfl);(case hc=>first|exact(Aa LL).one|exact(Aa LL).two);simp only[nn])|((with_reducible apply Ev);(case ho=>rfl);(case hw=>rfl);(case hx=>rfl);(case hc=>first|exact(Aa LL).one|exact(Aa LL).two);simp only[nn]))
      go_ret
      exact⟨rfl,(Aa LL).below⟩
end
section
open Go Go.Proofs Go.RowKit FM Tryz
structure Kp (w X:World) (l:List (Nat×PB)):Prop where
 below:Below w.heap.size w X
 all: ∀q∈l,w.heap.size<=q.1/\q.1<X.heap.size/\q.2.lies X q.1
 nd:(l.map (·.1)).Nodup
theorem Kp.of2 {w X:World} {p p2:PB} (h:Lie w X [p,p2]):Kp w X [(w.heap.size,p),(w.heap.size+1,p2)]:=
 ⟨h.below,fun q hq=>by
  have hs:=h.size
  simp at hs hq
  rcases hq with rfl|rfl
  ·exact⟨Nat.le_refl _,by show w.heap.size<X.heap.size;omega,h.holds.1⟩
  ·exact⟨Nat.le_succ _,by show w.heap.size+1<X.heap.size;omega,h.holds.2.1⟩,by simp⟩
theorem Kp.on {w X X1:World} {l:List (Nat×PB)} (h:Kp w X l) (hb:Below X.heap.size X X1):Kp w X1 l:=
 ⟨h.below.trans (hb.mono h.below.size),fun q hq=>⟨(h.all q hq).1,Nat.lt_of_lt_of_le (h.all q hq).2.1 hb.size,PB.on (h.all q hq).2.2 (h.all q hq).2.1 hb⟩,h.nd⟩
theorem Kp.drew {w X:World} {l:List (Nat×PB)} (h:Kp w X l):Kp w X.drew l:=⟨h.below.drew,fun q hq=>⟨(h.all q hq).1,(h.all q hq).2.1,PB.drew (h.all q hq).2.2⟩,h.nd⟩
theorem Kp.get {w X:World} {l:List (Nat×PB)} (h:Kp w X l) (i:Nat) {b:Nat} {p:PB} (hi:l[i]? =some (b,p)):p.lies X b:=(h.all _ (List.mem_of_getElem? hi)).2.2
theorem Kp.put {w X:World} {l:List (Nat×PB)} (h:Kp w X l) (i:Nat) {b:Nat} {d u:DD} (hi:l[i]? =some (b, .D d)):Kp w (X.setCells b 0 u.cs) (l.set i (b, .D u)):=by
 have hb:=h.all _ (List.mem_of_getElem? hi)
 have hlt:=(List.getElem?_eq_some_iff.1 hi).1
 refine⟨Ly (W:=X) hb.1 _ _ _ h.below,fun q hq=> ?_, ?_⟩
 ·rw[Mg]
  obtain⟨j,hj,rfl⟩:=List.mem_iff_getElem.1 hq
  by_cases hij:i=j
  ·subst hij
   rw[List.getElem_set_self]
   exact⟨hb.1,hb.2.1,Lies.setD hb.2.2⟩
  ·rw[List.getElem_set_ne hij]
   have hj':j<l.length:=by simpa using hj
   have ha:=h.all _ (List.getElem_mem hj')
   refine⟨ha.1,ha.2.1,PB.far ha.2.2 ?_⟩
   intro e
   have hn:=List.pairwise_iff_getElem.1 h.nd
   have hie:l[i].1=b:=by
    have:=(List.getElem?_eq_some_iff.1 hi).2
    rw[this]
   rcases Nat.lt_or_gt_of_ne hij with hlt2|hlt2
   ·exact hn i j (by simpa using hlt) (by simpa using hj') hlt2 (by simp[hie,e])
   ·exact hn j i (by simpa using hj') (by simpa using hlt) hlt2 (by simp[hie,e])
 ·rw[List.map_set]
  have:(l.map (·.1)).set i b=l.map (·.1):=by
   refine List.ext_getElem? fun j=> ?_
   by_cases hij:i=j
   ·subst hij
    have:=(List.getElem?_eq_some_iff.1 hi).2
    simp[hlt,this]
   ·rw[List.getElem?_set_ne hij]
  rw[this]
  exact h.nd

section
variable {md : Region.Mode} {ops : Array Oper} {Q : Exit → Act → World → Prop} {w0 w : World} {l : List (Nat × PB)} {fuel : Nat} {listed : Array Bool} {a : Act} {o : Oper}
theorem hload27 (i j:Nat) (dst:Option Tmp) {x:Operand} {b:Nat} {d:DD} (hi:ops[i]? =some o) (hs:Region.noSelect ops=true) (hf:Region.free md ops listed i=true) (hr:(Region.ready md ops listed).contains i=true)
  (hQ: ∀c a w,Q (.panic c) (a.put dst d.agg) w->Q (.panic c) a w) (hd:o.dst=dst) (hw:Region.wanted o (yielded ops a.tmps)=true) (ho:o.op= .load 39 x) (hx:a.eval x= .pointer (some ⟨b,0,none⟩)) (hl:l[j]? =some (b, .D d))
  (hS:Kp w0 w l) (h:wpAnyH prog md ops Q (fun X=>Kp w0 X l) fuel (listed.setIfInBounds i true) (a.put dst d.agg) w):wpAnyH prog md ops Q (fun X=>Kp w0 X l) (fuel+1) listed a w:=by
 subst hd
 obtain⟨t,hu,hd⟩:=Yu
 exact wpAnyH_take hi hs hf hr hQ (yieldsIf_load_mid hw 39 x ho b 0 hx d.cs t (fun X hX=>Lies.range (hX.get j hl)) hu hd Vf) hS h
theorem hpure (i:Nat) (dst:Option Tmp) (v:Value) (hi:ops[i]? =some o) (hs:Region.noSelect ops=true) (hf:Region.free md ops listed i=true) (hr:(Region.ready md ops listed).contains i=true)
  (hQ: ∀c a w,Q (.panic c) (a.put dst v) w->Q (.panic c) a w) (hd:o.dst=dst) (hw:Region.wanted o (yielded ops a.tmps)=true) (hy: ∀w,(execOp a.eval o).run prog w= .ok (.value v) w)
  (hS:Kp w0 w l) (h:wpAnyH prog md ops Q (fun X=>Kp w0 X l) fuel (listed.setIfInBounds i true) (a.put dst v) w):wpAnyH prog md ops Q (fun X=>Kp w0 X l) (fuel+1) listed a w:=by
 subst hd
 exact wpAnyH_take hi hs hf hr hQ (Or.inl ⟨hw,fun X _=>hy X⟩) hS h
theorem Zcm (i:Nat) (dst:Option Tmp) (hi:ops[i]? =some o) (hs:Region.noSelect ops=true) (hf:Region.free md ops listed i=true) (hr:(Region.ready md ops listed).contains i=true)
  (hQ: ∀c a w,Q (.panic c) (a.put dst undef) w->Q (.panic c) a w) (hd:o.dst=dst) (hw:Region.wanted o (yielded ops a.tmps)=false)
  (hS:Kp w0 w l) (h:wpAnyH prog md ops Q (fun X=>Kp w0 X l) fuel (listed.setIfInBounds i true) (a.put dst undef) w):wpAnyH prog md ops Q (fun X=>Kp w0 X l) (fuel+1) listed a w:=by
 subst hd
 exact wpAnyH_take hi hs hf hr hQ (Or.inr ⟨hw,rfl⟩) hS h
theorem hcall (i:Nat) (dst:Option Tmp) {f:FuncId} {args:Array Value} {V:Value} (hi:ops[i]? =some o) (hr:Region.ready md ops listed= [i]) (hd:o.dst=dst) (hw:Region.wanted o (yielded ops a.tmps)=true)
  (he:(execOp a.eval o).run prog w= .ok (.enter f args) w) (hC:Calls prog f args w fun e w'=>e= .returned V/\Below w.heap.size w w') (hS:Kp w0 w l)
  (h: ∀X,Kp w0 X l->wpAnyH prog md ops Q (fun X=>Kp w0 X l) fuel (listed.setIfInBounds i true) (a.put dst V) X):wpAnyH prog md ops Q (fun X=>Kp w0 X l) (fuel+1) listed a w:=by
 subst hd
 refine wpAnyH_ready hr (by simp) (AllReadyH.cons hi (fun K hK=> ?_) AllReadyH.nil)
 rw[if_pos hw]
 unfold Oper.wp
 rw[he,Oper.upon_enter]
 refine hC.mono ?_
 rintro _ X ⟨rfl,hb⟩
 exact hK.out _ _ (hS.on hb) (fun hX=>h X hX)
theorem x0 (i:Nat) (dst:Option Tmp) (v:Value) (hi:ops[i]? =some o) (hS:Kp w0 w l) (h:wpAnyH prog md ops Q (fun X=>Kp w0 X l) fuel (listed.setIfInBounds i true) (a.put dst v) w) (hy: ∀w,(execOp a.eval o).run prog w= .ok (.value v) w:=by intro _;kernel_rfl) (hs:Region.noSelect ops=true:=by kernel_rfl) (hf:Region.free md ops listed i=true:=by kernel_rfl) (hr:(Region.ready md ops listed).contains i=true:=by kernel_rfl) (hQ: ∀c a w,Q (.panic c) (a.put dst v) w->Q (.panic c) a w:=by exact fun _ _ _ h=>h) (hd:o.dst=dst:=by kernel_rfl) (hw:Region.wanted o (yielded ops a.tmps)=true:=by kernel_rfl):wpAnyH prog md ops Q (fun X=>Kp w0 X l) (fuel+1) listed a w:=hpure i dst v hi hs hf hr hQ hd hw hy hS h
theorem x1 (i j:Nat) (dst:Option Tmp) {x:Operand} {b:Nat} {d:DD} (hi:ops[i]? =some o) (hl:l[j]? =some (b, .D d)) (hS:Kp w0 w l) (h:wpAnyH prog md ops Q (fun X=>Kp w0 X l) fuel (listed.setIfInBounds i true) (a.put dst d.agg) w) (hs:Region.noSelect ops=true:=by kernel_rfl) (hf:Region.free md ops listed i=true:=by kernel_rfl) (hr:(Region.ready md ops listed).contains i=true:=by kernel_rfl) (hQ: ∀c a w,Q (.panic c) (a.put dst d.agg) w->Q (.panic c) a w:=by exact fun _ _ _ h=>h) (hd:o.dst=dst:=by kernel_rfl) (hw:Region.wanted o (yielded ops a.tmps)=true:=by kernel_rfl) (ho:o.op= .load 39 x:=by kernel_rfl) (hx:a.eval x= .pointer (some ⟨b,0,none⟩):=by kernel_rfl):wpAnyH prog md ops Q (fun X=>Kp w0 X l) (fuel+1) listed a w:=hload27 i j dst hi hs hf hr hQ hd hw ho hx hl hS h
theorem x2 (i:Nat) (dst:Option Tmp) {f:FuncId} {args:Array Value} {V:Value} (hi:ops[i]? =some o) (hC:Calls prog f args w fun e w'=>e= .returned V/\Below w.heap.size w w') (hS:Kp w0 w l) (h: ∀X,Kp w0 X l->wpAnyH prog md ops Q (fun X=>Kp w0 X l) fuel (listed.setIfInBounds i true) (a.put dst V) X) (hr:Region.ready md ops listed= [i]:=by kernel_rfl) (hd:o.dst=dst:=by kernel_rfl) (hw:Region.wanted o (yielded ops a.tmps)=true:=by kernel_rfl) (he:(execOp a.eval o).run prog w= .ok (.enter f args) w:=by kernel_rfl):wpAnyH prog md ops Q (fun X=>Kp w0 X l) (fuel+1) listed a w:=hcall i dst hi hr hd hw he hC hS h
end
end
section
open Go Go.Proofs Go.RowKit FM
theorem ZcK {d:DD} (h:wholeV d=true): ¬Jj d=0:=by
 intro hk
 unfold wholeV at h
 rw[hk] at h
 simp at h
theorem Pp (v:VV):eqB v v=true:=by
 unfold eqB
 simp
theorem Zcw (d:DD):eqD d d=true:=by
 unfold eqD
 rw[Pp,Pp,Pp]
 simp
end
section
open Go Go.Proofs Go.RowKit FM Tryz
def turnV (n d:DD):Bool:=Dg d !=1 && Dg d !=Dg n
def Zz (n d:DD):Bool:=if d.c==2||d.e !=0 && d.e !=n.e||turnV n d then true else if Dg n==3 then Zcy n.g d.g||Zcy n.s d.s else n.w==1 && (d.w==2||Zcy n.v d.v)
def Rl (n d:DD):DD:=if turnV n d then Kw ⟨d.v,d.g,d.s,d.w,orT d.e n.e,orT d.c n.c⟩ else ⟨orV d.v n.v,orV d.g n.g,orV d.s n.s,orT d.w n.w,orT d.e n.e,orT d.c n.c⟩
theorem turns_00 (n d:DD) (hn:FD n) (hd:FD d) (h1:Dg d=0) (h2:Dg n=0) (w:World):Calls prog 115 #[n.agg,d.agg] w fun e w'=>e= .returned (.bool (turnV n d))/\Below w.heap.size w w':=by
 have HD:=Ab (Dd d hd)
 have HN:=Ab (Dd n hn)
 clear hn hd
 have LL:=Ab (Kp.of2 (Lie.new2 w (.D n) (.D d)))
 unfold turnV
 rw[h1,h2]
 rw[h1] at HD
 rw[h2] at HN
 have hq0:=Ja n
 have hq1:=Ja d
 rw[hq0,hq1]
 clear hq0 hq1
 go_enter func115,ntmps115
 go_wp2_with fail
 refine wp_region_held_drew (P:=prog) (S:=fun X=>Kp w X [(w.heap.size, .D n),(w.heap.size+1, .D d)]) (by kernel_rfl) (Kp.drew (Aa LL)) (fun hS0=> ?_)
 refine x1 0 1 (some 5) (x:= .tmp 3) (b:=w.heap.size+1) (d:=d) rfl rfl hS0 ?_
 simp only[nn]
 refine x2 1 (some 6) rfl (Aa HD _) hS0 (fun uw1 hS1=> ?_)
 clear hS0
 simp only[nn]
 refine x0 2 (some 7) (.bool true) rfl hS1 ?_
 simp only[nn]
 refine x0 3 (some 8) (.bool true) rfl hS1 ?_
 simp only[nn]
 refine x1 4 1 (some 9) (x:= .tmp 3) (b:=w.heap.size+1) (d:=d) rfl rfl hS1 ?_
 simp only[nn]
 refine x1 6 0 (some 11) (x:= .tmp 2) (b:=w.heap.size) (d:=n) rfl rfl hS1 ?_
 simp only[nn]
 refine x2 5 (some 10) rfl (Aa HD _) hS1 (fun uw2 hS2=> ?_)
 clear hS1
 simp only[nn]
 refine x2 7 (some 12) rfl (Aa HN _) hS2 (fun uw3 hS3=> ?_)
 clear hS2
 simp only[nn]
 refine x0 8 (some 13) (.bool false) rfl hS3 ?_
 simp only[nn]
 refine x0 9 (some 14) (.bool false) rfl hS3 ?_
 simp only[nn]
 refine x0 10 (some 4) (.bool false) rfl hS3 ?_
 simp only[nn]
 refine wpAnyH_done (by kernel_rfl) ?_ _
 try simp only[nn]
 replace LL:=Ab hS3
 clear hS3
 go_wp2_with fail
 go_ret
 exact⟨rfl,(Aa LL).below⟩
theorem turns_01 (n d:DD) (hn:FD n) (hd:FD d) (h1:Dg d=0) (h2:Dg n=1) (w:World):Calls prog 115 #[n.agg,d.agg] w fun e w'=>e= .returned (.bool (turnV n d))/\Below w.heap.size w w':=by
 have HD:=Ab (Dd d hd)
 have HN:=Ab (Dd n hn)
 clear hn hd
 have LL:=Ab (Kp.of2 (Lie.new2 w (.D n) (.D d)))
 unfold turnV
 rw[h1,h2]
 rw[h1] at HD
 rw[h2] at HN
 have hq0:=Ja n
 have hq1:=Ja d
 rw[hq0,hq1]
 clear hq0 hq1
 go_enter func115,ntmps115
 go_wp2_with fail
 refine wp_region_held_drew (P:=prog) (S:=fun X=>Kp w X [(w.heap.size, .D n),(w.heap.size+1, .D d)]) (by kernel_rfl) (Kp.drew (Aa LL)) (fun hS0=> ?_)
 refine x1 0 1 (some 5) (x:= .tmp 3) (b:=w.heap.size+1) (d:=d) rfl rfl hS0 ?_
 simp only[nn]
 refine x2 1 (some 6) rfl (Aa HD _) hS0 (fun uw1 hS1=> ?_)
 clear hS0
 simp only[nn]
 refine x0 2 (some 7) (.bool true) rfl hS1 ?_
 simp only[nn]
 refine x0 3 (some 8) (.bool true) rfl hS1 ?_
 simp only[nn]
 refine x1 4 1 (some 9) (x:= .tmp 3) (b:=w.heap.size+1) (d:=d) rfl rfl hS1 ?_
 simp only[nn]
 refine x1 6 0 (some 11) (x:= .tmp 2) (b:=w.heap.size) (d:=n) rfl rfl hS1 ?_
 simp only[nn]
 refine x2 5 (some 10) rfl (Aa HD _) hS1 (fun uw2 hS2=> ?_)
 clear hS1
 simp only[nn]
 refine x2 7 (some 12) rfl (Aa HN _) hS2 (fun uw3 hS3=> ?_)
 clear hS2
 simp only[nn]
 refine x0 8 (some 13) (.bool true) rfl hS3 ?_
 simp only[nn]
 refine x0 9 (some 14) (.bool true) rfl hS3 ?_
 simp only[nn]
 refine x0 10 (some 4) (.bool true) rfl hS3 ?_
 simp only[nn]
 refine wpAnyH_done (by kernel_rfl) ?_ _
 try simp only[nn]
 replace LL:=Ab hS3
 clear hS3
 go_wp2_with fail
 go_ret
 exact⟨rfl,(Aa LL).below⟩
theorem turns_02 (n d:DD) (hn:FD n) (hd:FD d) (h1:Dg d=0) (h2:Dg n=2) (w:World):Calls prog 115 #[n.agg,d.agg] w fun e w'=>e= .returned (.bool (turnV n d))/\Below w.heap.size w w':=by
 have HD:=Ab (Dd d hd)
 have HN:=Ab (Dd n hn)
 clear hn hd
 have LL:=Ab (Kp.of2 (Lie.new2 w (.D n) (.D d)))
 unfold turnV
 rw[h1,h2]
 rw[h1] at HD
 rw[h2] at HN
 have hq0:=Ja n
 have hq1:=Ja d
 rw[hq0,hq1]
 clear hq0 hq1
 go_enter func115,ntmps115
 go_wp2_with fail
 refine wp_region_held_drew (P:=prog) (S:=fun X=>Kp w X [(w.heap.size, .D n),(w.heap.size+1, .D d)]) (by kernel_rfl) (Kp.drew (Aa LL)) (fun hS0=> ?_)
 refine x1 0 1 (some 5) (x:= .tmp 3) (b:=w.heap.size+1) (d:=d) rfl rfl hS0 ?_
 simp only[nn]
 refine x2 1 (some 6) rfl (Aa HD _) hS0 (fun uw1 hS1=> ?_)
 clear hS0
 simp only[nn]
 refine x0 2 (some 7) (.bool true) rfl hS1 ?_
 simp only[nn]
 refine x0 3 (some 8) (.bool true) rfl hS1 ?_
 simp only[nn]
 refine x1 4 1 (some 9) (x:= .tmp 3) (b:=w.heap.size+1) (d:=d) rfl rfl hS1 ?_
 simp only[nn]
 refine x1 6 0 (some 11) (x:= .tmp 2) (b:=w.heap.size) (d:=n) rfl rfl hS1 ?_
 simp only[nn]
 refine x2 5 (some 10) rfl (Aa HD _) hS1 (fun uw2 hS2=> ?_)
 clear hS1
 simp only[nn]
 refine x2 7 (some 12) rfl (Aa HN _) hS2 (fun uw3 hS3=> ?_)
 clear hS2
 simp only[nn]
 refine x0 8 (some 13) (.bool true) rfl hS3 ?_
 simp only[nn]
 refine x0 9 (some 14) (.bool true) rfl hS3 ?_
 simp only[nn]
 refine x0 10 (some 4) (.bool true) rfl hS3 ?_
 simp only[nn]
 refine wpAnyH_done (by kernel_rfl) ?_ _
 try simp only[nn]
 replace LL:=Ab hS3
 clear hS3
 go_wp2_with fail
 go_ret
 exact⟨rfl,(Aa LL).below⟩
theorem turns_03 (n d:DD) (hn:FD n) (hd:FD d) (h1:Dg d=0) (h2:Dg n=3) (w:World):Calls prog 115 #[n.agg,d.agg] w fun e w'=>e= .returned (.bool (turnV n d))/\Below w.heap.size w w':=by
 have HD:=Ab (Dd d hd)
 have HN:=Ab (Dd n hn)
 clear hn hd
 have LL:=Ab (Kp.of2 (Lie.new2 w (.D n) (.D d)))
 unfold turnV
 rw[h1,h2]
 rw[h1] at HD
 rw[h2] at HN
 have hq0:=Ja n
 have hq1:=Ja d
 rw[hq0,hq1]
 clear hq0 hq1
 go_enter func115,ntmps115
 go_wp2_with fail
 refine wp_region_held_drew (P:=prog) (S:=fun X=>Kp w X [(w.heap.size, .D n),(w.heap.size+1, .D d)]) (by kernel_rfl) (Kp.drew (Aa LL)) (fun hS0=> ?_)
 refine x1 0 1 (some 5) (x:= .tmp 3) (b:=w.heap.size+1) (d:=d) rfl rfl hS0 ?_
 simp only[nn]
 refine x2 1 (some 6) rfl (Aa HD _) hS0 (fun uw1 hS1=> ?_)
 clear hS0
 simp only[nn]
 refine x0 2 (some 7) (.bool true) rfl hS1 ?_
 simp only[nn]
 refine x0 3 (some 8) (.bool true) rfl hS1 ?_
 simp only[nn]
 refine x1 4 1 (some 9) (x:= .tmp 3) (b:=w.heap.size+1) (d:=d) rfl rfl hS1 ?_
 simp only[nn]
 refine x1 6 0 (some 11) (x:= .tmp 2) (b:=w.heap.size) (d:=n) rfl rfl hS1 ?_
 simp only[nn]
 refine x2 5 (some 10) rfl (Aa HD _) hS1 (fun uw2 hS2=> ?_)
 clear hS1
 simp only[nn]
 refine x2 7 (some 12) rfl (Aa HN _) hS2 (fun uw3 hS3=> ?_)
 clear hS2
 simp only[nn]
 refine x0 8 (some 13) (.bool true) rfl hS3 ?_
 simp only[nn]
 refine x0 9 (some 14) (.bool true) rfl hS3 ?_
 simp only[nn]
 refine x0 10 (some 4) (.bool true) rfl hS3 ?_
 simp only[nn]
 refine wpAnyH_done (by kernel_rfl) ?_ _
 try simp only[nn]
 replace LL:=Ab hS3
 clear hS3
 go_wp2_with fail
 go_ret
 exact⟨rfl,(Aa LL).below⟩
theorem turns_1 (n d:DD) (hn:FD n) (hd:FD d) (h1:Dg d=1) (w:World):Calls prog 115 #[n.agg,d.agg] w fun e w'=>e= .returned (.bool (turnV n d))/\Below w.heap.size w w':=by
 have HD:=Ab (Dd d hd)
 have HN:=Ab (Dd n hn)
 clear hn hd
 have LL:=Ab (Kp.of2 (Lie.new2 w (.D n) (.D d)))
 unfold turnV
 rw[h1]
 rw[h1] at HD
 have hq0:=Ja n
 have hq1:=Ja d
 rw[hq0,hq1]
 clear hq0 hq1
 go_enter func115,ntmps115
 go_wp2_with fail
 refine wp_region_held_drew (P:=prog) (S:=fun X=>Kp w X [(w.heap.size, .D n),(w.heap.size+1, .D d)]) (by kernel_rfl) (Kp.drew (Aa LL)) (fun hS0=> ?_)
 refine x1 0 1 (some 5) (x:= .tmp 3) (b:=w.heap.size+1) (d:=d) rfl rfl hS0 ?_
 simp only[nn]
 refine x2 1 (some 6) rfl (Aa HD _) hS0 (fun uw1 hS1=> ?_)
 clear hS0
 simp only[nn]
 refine x0 2 (some 7) (.bool false) rfl hS1 ?_
 simp only[nn]
 refine x0 3 (some 8) (.bool false) rfl hS1 ?_
 simp only[nn]
 refine Zcm 4 (some 9) rfl (by kernel_rfl) (by kernel_rfl) (by kernel_rfl) (fun _ _ _ h=>h) (by kernel_rfl) (by kernel_rfl) hS1 ?_
 simp only[nn]
 refine Zcm 5 (some 10) rfl (by kernel_rfl) (by kernel_rfl) (by kernel_rfl) (fun _ _ _ h=>h) (by kernel_rfl) (by kernel_rfl) hS1 ?_
 simp only[nn]
 refine Zcm 6 (some 11) rfl (by kernel_rfl) (by kernel_rfl) (by kernel_rfl) (fun _ _ _ h=>h) (by kernel_rfl) (by kernel_rfl) hS1 ?_
 simp only[nn]
 refine Zcm 7 (some 12) rfl (by kernel_rfl) (by kernel_rfl) (by kernel_rfl) (fun _ _ _ h=>h) (by kernel_rfl) (by kernel_rfl) hS1 ?_
 simp only[nn]
 refine Zcm 8 (some 13) rfl (by kernel_rfl) (by kernel_rfl) (by kernel_rfl) (fun _ _ _ h=>h) (by kernel_rfl) (by kernel_rfl) hS1 ?_
 simp only[nn]
 refine x0 9 (some 14) (.bool false) rfl hS1 ?_
 simp only[nn]
 refine x0 10 (some 4) (.bool false) rfl hS1 ?_
 simp only[nn]
 refine wpAnyH_done (by kernel_rfl) ?_ _
 try simp only[nn]
 replace LL:=Ab hS1
 clear hS1
 go_wp2_with fail
 go_ret
 exact⟨rfl,(Aa LL).below⟩
theorem turns_20 (n d:DD) (hn:FD n) (hd:FD d) (h1:Dg d=2) (h2:Dg n=0) (w:World):Calls prog 115 #[n.agg,d.agg] w fun e w'=>e= .returned (.bool (turnV n d))/\Below w.heap.size w w':=by
 have HD:=Ab (Dd d hd)
 have HN:=Ab (Dd n hn)
 clear hn hd
 have LL:=Ab (Kp.of2 (Lie.new2 w (.D n) (.D d)))
 unfold turnV
 rw[h1,h2]
 rw[h1] at HD
 rw[h2] at HN
 have hq0:=Ja n
 have hq1:=Ja d
 rw[hq0,hq1]
 clear hq0 hq1
 go_enter func115,ntmps115
 go_wp2_with fail
 refine wp_region_held_drew (P:=prog) (S:=fun X=>Kp w X [(w.heap.size, .D n),(w.heap.size+1, .D d)]) (by kernel_rfl) (Kp.drew (Aa LL)) (fun hS0=> ?_)
 refine x1 0 1 (some 5) (x:= .tmp 3) (b:=w.heap.size+1) (d:=d) rfl rfl hS0 ?_
 simp only[nn]
 refine x2 1 (some 6) rfl (Aa HD _) hS0 (fun uw1 hS1=> ?_)
 clear hS0
 simp only[nn]
 refine x0 2 (some 7) (.bool true) rfl hS1 ?_
 simp only[nn]
 refine x0 3 (some 8) (.bool true) rfl hS1 ?_
 simp only[nn]
 refine x1 4 1 (some 9) (x:= .tmp 3) (b:=w.heap.size+1) (d:=d) rfl rfl hS1 ?_
 simp only[nn]
 refine x1 6 0 (some 11) (x:= .tmp 2) (b:=w.heap.size) (d:=n) rfl rfl hS1 ?_
 simp only[nn]
 refine x2 5 (some 10) rfl (Aa HD _) hS1 (fun uw2 hS2=> ?_)
 clear hS1
 simp only[nn]
 refine x2 7 (some 12) rfl (Aa HN _) hS2 (fun uw3 hS3=> ?_)
 clear hS2
 simp only[nn]
 refine x0 8 (some 13) (.bool true) rfl hS3 ?_
 simp only[nn]
 refine x0 9 (some 14) (.bool true) rfl hS3 ?_
 simp only[nn]
 refine x0 10 (some 4) (.bool true) rfl hS3 ?_
 simp only[nn]
 refine wpAnyH_done (by kernel_rfl) ?_ _
 try simp only[nn]
 replace LL:=Ab hS3
 clear hS3
 go_wp2_with fail
 go_ret
 exact⟨rfl,(Aa LL).below⟩
theorem turns_21 (n d:DD) (hn:FD n) (hd:FD d) (h1:Dg d=2) (h2:Dg n=1) (w:World):Calls prog 115 #[n.agg,d.agg] w fun e w'=>e= .returned (.bool (turnV n d))/\Below w.heap.size w w':=by
 have HD:=Ab (Dd d hd)
 have HN:=Ab (Dd n hn)
 clear hn hd
 have LL:=Ab (Kp.of2 (Lie.new2 w (.D n) (.D d)))
 unfold turnV
 rw[h1,h2]
 rw[h1] at HD
 rw[h2] at HN
 have hq0:=Ja n
 have hq1:=Ja d
 rw[hq0,hq1]
 clear hq0 hq1
 go_enter func115,ntmps115
 go_wp2_with fail
 refine wp_region_held_drew (P:=prog) (S:=fun X=>Kp w X [(w.heap.size, .D n),(w.heap.size+1, .D d)]) (by kernel_rfl) (Kp.drew (Aa LL)) (fun hS0=> ?_)
 refine x1 0 1 (some 5) (x:= .tmp 3) (b:=w.heap.size+1) (d:=d) rfl rfl hS0 ?_
 simp only[nn]
 refine x2 1 (some 6) rfl (Aa HD _) hS0 (fun uw1 hS1=> ?_)
 clear hS0
 simp only[nn]
 refine x0 2 (some 7) (.bool true) rfl hS1 ?_
 simp only[nn]
 refine x0 3 (some 8) (.bool true) rfl hS1 ?_
 simp only[nn]
 refine x1 4 1 (some 9) (x:= .tmp 3) (b:=w.heap.size+1) (d:=d) rfl rfl hS1 ?_
 simp only[nn]
 refine x1 6 0 (some 11) (x:= .tmp 2) (b:=w.heap.size) (d:=n) rfl rfl hS1 ?_
 simp only[nn]
 refine x2 5 (some 10) rfl (Aa HD _) hS1 (fun uw2 hS2=> ?_)
 clear hS1
 simp only[nn]
 refine x2 7 (some 12) rfl (Aa HN _) hS2 (fun uw3 hS3=> ?_)
 clear hS2
 simp only[nn]
 refine x0 8 (some 13) (.bool true) rfl hS3 ?_
 simp only[nn]
 refine x0 9 (some 14) (.bool true) rfl hS3 ?_
 simp only[nn]
 refine x0 10 (some 4) (.bool true) rfl hS3 ?_
 simp only[nn]
 refine wpAnyH_done (by kernel_rfl) ?_ _
 try simp only[nn]
 replace LL:=Ab hS3
 clear hS3
 go_wp2_with fail
 go_ret
 exact⟨rfl,(Aa LL).below⟩
theorem turns_22 (n d:DD) (hn:FD n) (hd:FD d) (h1:Dg d=2) (h2:Dg n=2) (w:World):Calls prog 115 #[n.agg,d.agg] w fun e w'=>e= .returned (.bool (turnV n d))/\Below w.heap.size w w':=by
 have HD:=Ab (Dd d hd)
 have HN:=Ab (Dd n hn)
 clear hn hd
 have LL:=Ab (Kp.of2 (Lie.new2 w (.D n) (.D d)))
 unfold turnV
 rw[h1,h2]
 rw[h1] at HD
 rw[h2] at HN
 have hq0:=Ja n
 have hq1:=Ja d
 rw[hq0,hq1]
 clear hq0 hq1
 go_enter func115,ntmps115
 go_wp2_with fail
 refine wp_region_held_drew (P:=prog) (S:=fun X=>Kp w X [(w.heap.size, .D n),(w.heap.size+1, .D d)]) (by kernel_rfl) (Kp.drew (Aa LL)) (fun hS0=> ?_)
 refine x1 0 1 (some 5) (x:= .tmp 3) (b:=w.heap.size+1) (d:=d) rfl rfl hS0 ?_
 simp only[nn]
 refine x2 1 (some 6) rfl (Aa HD _) hS0 (fun uw1 hS1=> ?_)
 clear hS0
 simp only[nn]
 refine x0 2 (some 7) (.bool true) rfl hS1 ?_
 simp only[nn]
 refine x0 3 (some 8) (.bool true) rfl hS1 ?_
 simp only[nn]
 refine x1 4 1 (some 9) (x:= .tmp 3) (b:=w.heap.size+1) (d:=d) rfl rfl hS1 ?_
 simp only[nn]
 refine x1 6 0 (some 11) (x:= .tmp 2) (b:=w.heap.size) (d:=n) rfl rfl hS1 ?_
 simp only[nn]
 refine x2 5 (some 10) rfl (Aa HD _) hS1 (fun uw2 hS2=> ?_)
 clear hS1
 simp only[nn]
 refine x2 7 (some 12) rfl (Aa HN _) hS2 (fun uw3 hS3=> ?_)
 clear hS2
 simp only[nn]
 refine x0 8 (some 13) (.bool false) rfl hS3 ?_
 simp only[nn]
 refine x0 9 (some 14) (.bool false) rfl hS3 ?_
 simp only[nn]
 refine x0 10 (some 4) (.bool false) rfl hS3 ?_
 simp only[nn]
 refine wpAnyH_done (by kernel_rfl) ?_ _
 try simp only[nn]
 replace LL:=Ab hS3
 clear hS3
 go_wp2_with fail
 go_ret
 exact⟨rfl,(Aa LL).below⟩
theorem turns_23 (n d:DD) (hn:FD n) (hd:FD d) (h1:Dg d=2) (h2:Dg n=3) (w:World):Calls prog 115 #[n.agg,d.agg] w fun e w'=>e= .returned (.bool (turnV n d))/\Below w.heap.size w w':=by
 have HD:=Ab (Dd d hd)
 have HN:=Ab (Dd n hn)
 clear hn hd
 have LL:=Ab (Kp.of2 (Lie.new2 w (.D n) (.D d)))
 unfold turnV
 rw[h1,h2]
 rw[h1] at HD
 rw[h2] at HN
 have hq0:=Ja n
 have hq1:=Ja d
 rw[hq0,hq1]
 clear hq0 hq1
 go_enter func115,ntmps115
 go_wp2_with fail
 refine wp_region_held_drew (P:=prog) (S:=fun X=>Kp w X [(w.heap.size, .D n),(w.heap.size+1, .D d)]) (by kernel_rfl) (Kp.drew (Aa LL)) (fun hS0=> ?_)
 refine x1 0 1 (some 5) (x:= .tmp 3) (b:=w.heap.size+1) (d:=d) rfl rfl hS0 ?_
 simp only[nn]
 refine x2 1 (some 6) rfl (Aa HD _) hS0 (fun uw1 hS1=> ?_)
 clear hS0
 simp only[nn]
 refine x0 2 (some 7) (.bool true) rfl hS1 ?_
 simp only[nn]
 refine x0 3 (some 8) (.bool true) rfl hS1 ?_
 simp only[nn]
 refine x1 4 1 (some 9) (x:= .tmp 3) (b:=w.heap.size+1) (d:=d) rfl rfl hS1 ?_
 simp only[nn]
 refine x1 6 0 (some 11) (x:= .tmp 2) (b:=w.heap.size) (d:=n) rfl rfl hS1 ?_
 simp only[nn]
 refine x2 5 (some 10) rfl (Aa HD _) hS1 (fun uw2 hS2=> ?_)
 clear hS1
 simp only[nn]
 refine x2 7 (some 12) rfl (Aa HN _) hS2 (fun uw3 hS3=> ?_)
 clear hS2
 simp only[nn]
 refine x0 8 (some 13) (.bool true) rfl hS3 ?_
 simp only[nn]
 refine x0 9 (some 14) (.bool true) rfl hS3 ?_
 simp only[nn]
 refine x0 10 (some 4) (.bool true) rfl hS3 ?_
 simp only[nn]
 refine wpAnyH_done (by kernel_rfl) ?_ _
 try simp only[nn]
 replace LL:=Ab hS3
 clear hS3
 go_wp2_with fail
 go_ret
 exact⟨rfl,(Aa LL).below⟩
theorem turns_30 (n d:DD) (hn:FD n) (hd:FD d) (h1:Dg d=3) (h2:Dg n=0) (w:World):Calls prog 115 #[n.agg,d.agg] w fun e w'=>e= .returned (.bool (turnV n d))/\Below w.heap.size w w':=by
 have HD:=Ab (Dd d hd)
 have HN:=Ab (Dd n hn)
 clear hn hd
 have LL:=Ab (Kp.of2 (Lie.new2 w (.D n) (.D d)))
 unfold turnV
 rw[h1,h2]
 rw[h1] at HD
 rw[h2] at HN
 have hq0:=Ja n
 have hq1:=Ja d
 rw[hq0,hq1]
 clear hq0 hq1
 go_enter func115,ntmps115
 go_wp2_with fail
 refine wp_region_held_drew (P:=prog) (S:=fun X=>Kp w X [(w.heap.size, .D n),(w.heap.size+1, .D d)]) (by kernel_rfl) (Kp.drew (Aa LL)) (fun hS0=> ?_)
 refine x1 0 1 (some 5) (x:= .tmp 3) (b:=w.heap.size+1) (d:=d) rfl rfl hS0 ?_
 simp only[nn]
 refine x2 1 (some 6) rfl (Aa HD _) hS0 (fun uw1 hS1=> ?_)
 clear hS0
 simp only[nn]
 refine x0 2 (some 7) (.bool true) rfl hS1 ?_
 simp only[nn]
 refine x0 3 (some 8) (.bool true) rfl hS1 ?_
 simp only[nn]
 refine x1 4 1 (some 9) (x:= .tmp 3) (b:=w.heap.size+1) (d:=d) rfl rfl hS1 ?_
 simp only[nn]
 refine x1 6 0 (some 11) (x:= .tmp 2) (b:=w.heap.size) (d:=n) rfl rfl hS1 ?_
 simp only[nn]
 refine x2 5 (some 10) rfl (Aa HD _) hS1 (fun uw2 hS2=> ?_)
 clear hS1
 simp only[nn]
 refine x2 7 (some 12) rfl (Aa HN _) hS2 (fun uw3 hS3=> ?_)
 clear hS2
 simp only[nn]
 refine x0 8 (some 13) (.bool true) rfl hS3 ?_
 simp only[nn]
 refine x0 9 (some 14) (.bool true) rfl hS3 ?_
 simp only[nn]
 refine x0 10 (some 4) (.bool true) rfl hS3 ?_
 simp only[nn]
 refine wpAnyH_done (by kernel_rfl) ?_ _
 try simp only[nn]
 replace LL:=Ab hS3
 clear hS3
 go_wp2_with fail
 go_ret
 exact⟨rfl,(Aa LL).below⟩
theorem turns_31 (n d:DD) (hn:FD n) (hd:FD d) (h1:Dg d=3) (h2:Dg n=1) (w:World):Calls prog 115 #[n.agg,d.agg] w fun e w'=>e= .returned (.bool (turnV n d))/\Below w.heap.size w w':=by
 have HD:=Ab (Dd d hd)
 have HN:=Ab (Dd n hn)
 clear hn hd
 have LL:=Ab (Kp.of2 (Lie.new2 w (.D n) (.D d)))
 unfold turnV
 rw[h1,h2]
 rw[h1] at HD
 rw[h2] at HN
 have hq0:=Ja n
 have hq1:=Ja d
 rw[hq0,hq1]
 clear hq0 hq1
 go_enter func115,ntmps115
 go_wp2_with fail
 refine wp_region_held_drew (P:=prog) (S:=fun X=>Kp w X [(w.heap.size, .D n),(w.heap.size+1, .D d)]) (by kernel_rfl) (Kp.drew (Aa LL)) (fun hS0=> ?_)
 refine x1 0 1 (some 5) (x:= .tmp 3) (b:=w.heap.size+1) (d:=d) rfl rfl hS0 ?_
 simp only[nn]
 refine x2 1 (some 6) rfl (Aa HD _) hS0 (fun uw1 hS1=> ?_)
 clear hS0
 simp only[nn]
 refine x0 2 (some 7) (.bool true) rfl hS1 ?_
 simp only[nn]
 refine x0 3 (some 8) (.bool true) rfl hS1 ?_
 simp only[nn]
 refine x1 4 1 (some 9) (x:= .tmp 3) (b:=w.heap.size+1) (d:=d) rfl rfl hS1 ?_
 simp only[nn]
 refine x1 6 0 (some 11) (x:= .tmp 2) (b:=w.heap.size) (d:=n) rfl rfl hS1 ?_
 simp only[nn]
 refine x2 5 (some 10) rfl (Aa HD _) hS1 (fun uw2 hS2=> ?_)
 clear hS1
 simp only[nn]
 refine x2 7 (some 12) rfl (Aa HN _) hS2 (fun uw3 hS3=> ?_)
 clear hS2
 simp only[nn]
 refine x0 8 (some 13) (.bool true) rfl hS3 ?_
 simp only[nn]
 refine x0 9 (some 14) (.bool true) rfl hS3 ?_
 simp only[nn]
 refine x0 10 (some 4) (.bool true) rfl hS3 ?_
 simp only[nn]
 refine wpAnyH_done (by kernel_rfl) ?_ _
 try simp only[nn]
 replace LL:=Ab hS3
 clear hS3
 go_wp2_with fail
 go_ret
 exact⟨rfl,(Aa LL).below⟩
theorem turns_32 (n d:DD) (hn:FD n) (hd:FD d) (h1:Dg d=3) (h2:Dg n=2) (w:World):Calls prog 115 #[n.agg,d.agg] w fun e w'=>e= .returned (.bool (turnV n d))/\Below w.heap.size w w':=by
 have HD:=Ab (Dd d hd)
 have HN:=Ab (Dd n hn)
 clear hn hd
 have LL:=Ab (Kp.of2 (Lie.new2 w (.D n) (.D d)))
 unfold turnV
 rw[h1,h2]
 rw[h1] at HD
 rw[h2] at HN
 have hq0:=Ja n
 have hq1:=Ja d
 rw[hq0,hq1]
 clear hq0 hq1
 go_enter func115,ntmps115
 go_wp2_with fail
 refine wp_region_held_drew (P:=prog) (S:=fun X=>Kp w X [(w.heap.size, .D n),(w.heap.size+1, .D d)]) (by kernel_rfl) (Kp.drew (Aa LL)) (fun hS0=> ?_)
 refine x1 0 1 (some 5) (x:= .tmp 3) (b:=w.heap.size+1) (d:=d) rfl rfl hS0 ?_
 simp only[nn]
 refine x2 1 (some 6) rfl (Aa HD _) hS0 (fun uw1 hS1=> ?_)
 clear hS0
 simp only[nn]
 refine x0 2 (some 7) (.bool true) rfl hS1 ?_
 simp only[nn]
 refine x0 3 (some 8) (.bool true) rfl hS1 ?_
 simp only[nn]
 refine x1 4 1 (some 9) (x:= .tmp 3) (b:=w.heap.size+1) (d:=d) rfl rfl hS1 ?_
 simp only[nn]
 refine x1 6 0 (some 11) (x:= .tmp 2) (b:=w.heap.size) (d:=n) rfl rfl hS1 ?_
 simp only[nn]
 refine x2 5 (some 10) rfl (Aa HD _) hS1 (fun uw2 hS2=> ?_)
 clear hS1
 simp only[nn]
 refine x2 7 (some 12) rfl (Aa HN _) hS2 (fun uw3 hS3=> ?_)
 clear hS2
 simp only[nn]
 refine x0 8 (some 13) (.bool true) rfl hS3 ?_
 simp only[nn]
 refine x0 9 (some 14) (.bool true) rfl hS3 ?_
 simp only[nn]
 refine x0 10 (some 4) (.bool true) rfl hS3 ?_
 simp only[nn]
 refine wpAnyH_done (by kernel_rfl) ?_ _
 try simp only[nn]
 replace LL:=Ab hS3
 clear hS3
 go_wp2_with fail
 go_ret
 exact⟨rfl,(Aa LL).below⟩
theorem turns_33 (n d:DD) (hn:FD n) (hd:FD d) (h1:Dg d=3) (h2:Dg n=3) (w:World):Calls prog 115 #[n.agg,d.agg] w fun e w'=>e= .returned (.bool (turnV n d))/\Below w.heap.size w w':=by
 have HD:=Ab (Dd d hd)
 have HN:=Ab (Dd n hn)
 clear hn hd
 have LL:=Ab (Kp.of2 (Lie.new2 w (.D n) (.D d)))
 unfold turnV
 rw[h1,h2]
 rw[h1] at HD
 rw[h2] at HN
 have hq0:=Ja n
 have hq1:=Ja d
 rw[hq0,hq1]
 clear hq0 hq1
 go_enter func115,ntmps115
 go_wp2_with fail
 refine wp_region_held_drew (P:=prog) (S:=fun X=>Kp w X [(w.heap.size, .D n),(w.heap.size+1, .D d)]) (by kernel_rfl) (Kp.drew (Aa LL)) (fun hS0=> ?_)
 refine x1 0 1 (some 5) (x:= .tmp 3) (b:=w.heap.size+1) (d:=d) rfl rfl hS0 ?_
 simp only[nn]
 refine x2 1 (some 6) rfl (Aa HD _) hS0 (fun uw1 hS1=> ?_)
 clear hS0
 simp only[nn]
 refine x0 2 (some 7) (.bool true) rfl hS1 ?_
 simp only[nn]
 refine x0 3 (some 8) (.bool true) rfl hS1 ?_
 simp only[nn]
 refine x1 4 1 (some 9) (x:= .tmp 3) (b:=w.heap.size+1) (d:=d) rfl rfl hS1 ?_
 simp only[nn]
 refine x1 6 0 (some 11) (x:= .tmp 2) (b:=w.heap.size) (d:=n) rfl rfl hS1 ?_
 simp only[nn]
 refine x2 5 (some 10) rfl (Aa HD _) hS1 (fun uw2 hS2=> ?_)
 clear hS1
 simp only[nn]
 refine x2 7 (some 12) rfl (Aa HN _) hS2 (fun uw3 hS3=> ?_)
 clear hS2
 simp only[nn]
 refine x0 8 (some 13) (.bool false) rfl hS3 ?_
 simp only[nn]
 refine x0 9 (some 14) (.bool false) rfl hS3 ?_
 simp only[nn]
 refine x0 10 (some 4) (.bool false) rfl hS3 ?_
 simp only[nn]
 refine wpAnyH_done (by kernel_rfl) ?_ _
 try simp only[nn]
 replace LL:=Ab hS3
 clear hS3
 go_wp2_with fail
 go_ret
 exact⟨rfl,(Aa LL).below⟩
theorem Mr (d:DD):Dg d=0∨Dg d=1∨Dg d=2∨Dg d=3:=by
 unfold Dg
 split
 ·exact Or.inl rfl
 ·split
  ·exact Or.inr (Or.inr (Or.inl rfl))
  ·split
   ·exact Or.inr (Or.inr (Or.inr rfl))
   ·exact Or.inr (Or.inl rfl)
theorem ZaG (n d:DD) (hn:FD n) (hd:FD d) (w:World):Calls prog 115 #[n.agg,d.agg] w fun e w'=>e= .returned (.bool (turnV n d))/\Below w.heap.size w w':=by
 rcases Mr d with h1|h1|h1|h1
 ·rcases Mr n with h2|h2|h2|h2
  ·exact turns_00 n d hn hd h1 h2 w
  ·exact turns_01 n d hn hd h1 h2 w
  ·exact turns_02 n d hn hd h1 h2 w
  ·exact turns_03 n d hn hd h1 h2 w
 ·exact turns_1 n d hn hd h1 w
 ·rcases Mr n with h2|h2|h2|h2
  ·exact turns_20 n d hn hd h1 h2 w
  ·exact turns_21 n d hn hd h1 h2 w
  ·exact turns_22 n d hn hd h1 h2 w
  ·exact turns_23 n d hn hd h1 h2 w
 ·rcases Mr n with h2|h2|h2|h2
  ·exact turns_30 n d hn hd h1 h2 w
  ·exact turns_31 n d hn hd h1 h2 w
  ·exact turns_32 n d hn hd h1 h2 w
  ·exact turns_33 n d hn hd h1 h2 w

theorem ZaD (n d:DD) (hn:FD n) (hd:FD d) (w:World) (hT:Lib.Utf8Tabs 1 2 w):Calls prog 98 #[n.agg,d.agg] w fun e w'=>e= .returned (.bool (Zz n d))/\Below w.heap.size w w':=by
 have HT:=Ab hT
 clear hT
 have HTu:=Ab (ZaG n d hn hd)
 have HSh:=Ab (Dd n hn)
 have HG:=Ab (fun w hT=>Ps n.g d.g hn.2.1 hd.2.1 w hT)
 have HS:=Ab (fun w hT=>Ps n.s d.s hn.2.2 hd.2.2 w hT)
 have HV:=Ab (fun w hT=>Ps n.v d.v hn.1 hd.1 w hT)
 clear hn hd
 have LL:=Ab (Lie.new2 w (.D n) (.D d))
 unfold Zz
 generalize turnV n d=tu at *
 generalize Dg n=sh at *
 generalize Zcy n.g d.g=dg at *
 generalize Zcy n.s d.s=ds at *
 generalize Zcy n.v d.v=dv at *
 generalize hq2:(d.c==2)=q2 at *
 generalize hqe:(d.e !=0)=qe at *
 generalize hqn:(d.e !=n.e)=qn at *
 generalize hn1:(n.w==1)=n1 at *
 generalize hw2:(d.w==2)=w2 at *
 have hq0:=Ja n
 have hq1:=Ja d
 rw[hq0,hq1]
 clear hq0 hq1
 by_cases h3:sh=3
 ·subst h3
  go_enter func98,ntmps98
  cases q2
  ·cases qe
   ·go_wp2_with (first|go_skip|((with_reducible apply De);(case ho=>rfl);(case hw=>rfl);(case hx=>rfl);(case hc=>first|exact(Aa LL).one|exact(Aa LL).two);simp only[nn])|((with_reducible apply En);(case ho=>rfl);(case hw=>rfl);(case hx=>rfl);(case hc=>first|exact(Aa LL).one|exact(Aa LL).two);simp only[nn])|((with_reducible apply Ev);(case ho=>rfl);(case hw=>rfl);(case hx=>rfl);(case hc=>first|exact(Aa LL).one|exact(Aa LL).two);simp only[nn])|(go_at_call 106;refine(Dy _ _).mono ?_;rintro _ _ ⟨rfl,rfl⟩))
    refine(Aa HTu _).mono ?_
    rintro _ w16 ⟨rfl,hb⟩
    replace LL:=Ab ((Aa LL).on hb)
    clear hb
    cases tu
    ·go_wp2_with (first|go_skip|((with_reducible apply De);(case ho=>rfl);(case hw=>rfl);(case hx=>rfl);(case hc=>first|exact(Aa LL).one|exact(Aa LL).two);simp only[nn]))
     refine(Aa HSh _).mono ?_
     rintro _ w17 ⟨rfl,hb⟩
     replace LL:=Ab ((Aa LL).on hb)
     clear hb
     go_wp2_with (first|go_skip|((with_reducible apply Ys);(case ho=>rfl);(case hw=>rfl);(case hx=>rfl);(case hc=>first|exact(Aa LL).one|exact(Aa LL).two);simp only[nn]))
     refine(Aa HG _ (Ar (Aa HT) (Aa LL).below)).mono ?_
     rintro _ w18 ⟨rfl,hb⟩
     replace LL:=Ab ((Aa LL).on hb)
     clear hb
     cases dg
     ·go_wp2_with (first|go_skip|((with_reducible apply Yr);(case ho=>rfl);(case hw=>rfl);(case hx=>rfl);(case hc=>first|exact(Aa LL).one|exact(Aa LL).two);simp only[nn]))
      refine(Aa HS _ (Ar (Aa HT) (Aa LL).below)).mono ?_
      rintro _ w19 ⟨rfl,hb⟩
      replace LL:=Ab ((Aa LL).on hb)
      clear hb
      go_wp2_with (go_skip)
      go_ret
      exact⟨rfl,(Aa LL).below⟩
     ·go_wp2_with (go_skip)
      go_ret
      exact⟨rfl,(Aa LL).below⟩
    ·go_wp2_with (go_skip)
     go_ret
     exact⟨rfl,(Aa LL).below⟩
   ·cases qn
    ·go_wp2_with (first|go_skip|((with_reducible apply De);(case ho=>rfl);(case hw=>rfl);(case hx=>rfl);(case hc=>first|exact(Aa LL).one|exact(Aa LL).two);simp only[nn])|((with_reducible apply En);(case ho=>rfl);(case hw=>rfl);(case hx=>rfl);(case hc=>first|exact(Aa LL).one|exact(Aa LL).two);simp only[nn])|((with_reducible apply Ev);(case ho=>rfl);(case hw=>rfl);(case hx=>rfl);(case hc=>first|exact(Aa LL).one|exact(Aa LL).two);simp only[nn])|(go_at_call 106;refine(Dy _ _).mono ?_;rintro _ _ ⟨rfl,rfl⟩))
     refine(Aa HTu _).mono ?_
     rintro _ w22 ⟨rfl,hb⟩
     replace LL:=Ab ((Aa LL).on hb)
     clear hb
     cases tu
     ·go_wp2_with (first|go_skip|((with_reducible apply De);(case ho=>rfl);(case hw=>rfl);(case hx=>rfl);(case hc=>first|exact(Aa LL).one|exact(Aa LL).two);simp only[nn]))
      refine(Aa HSh _).mono ?_
      rintro _ w23 ⟨rfl,hb⟩
      replace LL:=Ab ((Aa LL).on hb)
      clear hb
      go_wp2_with (first|go_skip|((with_reducible apply Ys);(case ho=>rfl);(case hw=>rfl);(case hx=>rfl);(case hc=>first|exact(Aa LL).one|exact(Aa LL).two);simp only[nn]))
      refine(Aa HG _ (Ar (Aa HT) (Aa LL).below)).mono ?_
      rintro _ w24 ⟨rfl,hb⟩
      replace LL:=Ab ((Aa LL).on hb)
      clear hb
      cases dg
      ·go_wp2_with (first|go_skip|((with_reducible apply Yr);(case ho=>rfl);(case hw=>rfl);(case hx=>rfl);(case hc=>first|exact(Aa LL).one|exact(Aa LL).two);simp only[nn]))
       refine(Aa HS _ (Ar (Aa HT) (Aa LL).below)).mono ?_
       rintro _ w25 ⟨rfl,hb⟩
       replace LL:=Ab ((Aa LL).on hb)
       clear hb
       go_wp2_with (go_skip)
       go_ret
       exact⟨rfl,(Aa LL).below⟩
      ·go_wp2_with (go_skip)
       go_ret
       exact⟨rfl,(Aa LL).below⟩
     ·go_wp2_with (go_skip)
      go_ret
      exact⟨rfl,(Aa LL).below⟩
    ·go_wp2_with (first|go_skip|((with_reducible apply En);(case ho=>rfl);(case hw=>rfl);(case hx=>rfl);(case hc=>first|exact(Aa LL).one|exact(Aa LL).two);simp only[nn])|((with_reducible apply Ev);(case ho=>rfl);(case hw=>rfl);(case hx=>rfl);(case hc=>first|exact(Aa LL).one|exact(Aa LL).two);simp only[nn])|(go_at_call 106;refine(Dy _ _).mono ?_;rintro _ _ ⟨rfl,rfl⟩))
     go_ret
     exact⟨rfl,(Aa LL).below⟩
  ·go_wp2_with (first|go_skip|((with_reducible apply Ev);(case ho=>rfl);(case hw=>rfl);(case hx=>rfl);(case hc=>first|exact(Aa LL).one|exact(Aa LL).two);simp only[nn]))
   go_ret
   exact⟨rfl,(Aa LL).below⟩
 ·have e3:(sh==3)=false:=by simp[h3]
  rw[e3]
  go_enter func98,ntmps98
  cases q2
  ·cases qe
   ·go_wp2_with (first|go_skip|((with_reducible apply De);(case ho=>rfl);(case hw=>rfl);(case hx=>rfl);(case hc=>first|exact(Aa LL).one|exact(Aa LL).two);simp only[nn])|((with_reducible apply En);(case ho=>rfl);(case hw=>rfl);(case hx=>rfl);(case hc=>first|exact(Aa LL).one|exact(Aa LL).two);simp only[nn])|((with_reducible apply Ev);(case ho=>rfl);(case hw=>rfl);(case hx=>rfl);(case hc=>first|exact(Aa LL).one|exact(Aa LL).two);simp only[nn])|(go_at_call 106;refine(Dy _ _).mono ?_;rintro _ _ ⟨rfl,rfl⟩))
    refine(Aa HTu _).mono ?_
    rintro _ w28 ⟨rfl,hb⟩
    replace LL:=Ab ((Aa LL).on hb)
    clear hb
    cases tu
    ·go_wp2_with (first|go_skip|((with_reducible apply De);(case ho=>rfl);(case hw=>rfl);(case hx=>rfl);(case hc=>first|exact(Aa LL).one|exact(Aa LL).two);simp only[nn]))
     refine(Aa HSh _).mono ?_
     rintro _ w32 ⟨rfl,hb⟩
     replace LL:=Ab ((Aa LL).on hb)
     clear hb
     cases n1
     ·go_wp2_with (first|go_skip|((with_reducible apply Ks);(case ho=>rfl);(case hw=>rfl);(case hx=>rfl);(case hc=>first|exact(Aa LL).one|exact(Aa LL).two);simp only[nn]))
      go_ret
      exact⟨rfl,(Aa LL).below⟩
     ·cases w2
      ·go_wp2_with (first|go_skip|((with_reducible apply Yq);(case ho=>rfl);(case hw=>rfl);(case hx=>rfl);(case hc=>first|exact(Aa LL).one|exact(Aa LL).two);simp only[nn])|((with_reducible apply Ks);(case ho=>rfl);(case hw=>rfl);(case hx=>rfl);(case hc=>first|exact(Aa LL).one|exact(Aa LL).two);simp only[nn]))
       refine(Aa HV _ (Ar (Aa HT) (Aa LL).below)).mono ?_
       rintro _ w33 ⟨rfl,hb⟩
       replace LL:=Ab ((Aa LL).on hb)
       clear hb
       go_wp2_with (go_skip)
       go_ret
       exact⟨rfl,(Aa LL).below⟩
      ·go_wp2_with (first|go_skip|((with_reducible apply Ks);(case ho=>rfl);(case hw=>rfl);(case hx=>rfl);(case hc=>first|exact(Aa LL).one|exact(Aa LL).two);simp only[nn]))
       go_ret
       exact⟨rfl,(Aa LL).below⟩
    ·go_wp2_with (go_skip)
     go_ret
     exact⟨rfl,(Aa LL).below⟩
   ·cases qn
    ·go_wp2_with (first|go_skip|((with_reducible apply De);(case ho=>rfl);(case hw=>rfl);(case hx=>rfl);(case hc=>first|exact(Aa LL).one|exact(Aa LL).two);simp only[nn])|((with_reducible apply En);(case ho=>rfl);(case hw=>rfl);(case hx=>rfl);(case hc=>first|exact(Aa LL).one|exact(Aa LL).two);simp only[nn])|((with_reducible apply Ev);(case ho=>rfl);(case hw=>rfl);(case hx=>rfl);(case hc=>first|exact(Aa LL).one|exact(Aa LL).two);simp only[nn])|(go_at_call 106;refine(Dy _ _).mono ?_;rintro _ _ ⟨rfl,rfl⟩))
     refine(Aa HTu _).mono ?_
     rintro _ w34 ⟨rfl,hb⟩
     replace LL:=Ab ((Aa LL).on hb)
     clear hb
     cases tu
     ·go_wp2_with (first|go_skip|((with_reducible apply De);(case ho=>rfl);(case hw=>rfl);(case hx=>rfl);(case hc=>first|exact(Aa LL).one|exact(Aa LL).two);simp only[nn]))
      refine(Aa HSh _).mono ?_
      rintro _ w38 ⟨rfl,hb⟩
      replace LL:=Ab ((Aa LL).on hb)
      clear hb
      cases n1
      ·go_wp2_with (first|go_skip|((with_reducible apply Ks);(case ho=>rfl);(case hw=>rfl);(case hx=>rfl);(case hc=>first|exact(Aa LL).one|exact(Aa LL).two);simp only[nn]))
       go_ret
       exact⟨rfl,(Aa LL).below⟩
      ·cases w2
       ·go_wp2_with (first|go_skip|((with_reducible apply Yq);(case ho=>rfl);(case hw=>rfl);(case hx=>rfl);(case hc=>first|exact(Aa LL).one|exact(Aa LL).two);simp only[nn])|((with_reducible apply Ks);(case ho=>rfl);(case hw=>rfl);(case hx=>rfl);(case hc=>first|exact(Aa LL).one|exact(Aa LL).two);simp only[nn]))
        refine(Aa HV _ (Ar (Aa HT) (Aa LL).below)).mono ?_
        rintro _ w39 ⟨rfl,hb⟩
        replace LL:=Ab ((Aa LL).on hb)
        clear hb
        go_wp2_with (go_skip)
        go_ret
        exact⟨rfl,(Aa LL).below⟩
       ·go_wp2_with (first|go_skip|((with_reducible apply Ks);(case ho=>rfl);(case hw=>rfl);(case hx=>rfl);(case hc=>first|exact(Aa LL).one|exact(Aa LL).two);simp only[nn]))
        go_ret
        exact⟨rfl,(Aa LL).below⟩
     ·go_wp2_with (go_skip)
      go_ret
      exact⟨rfl,(Aa LL).below⟩
    ·go_wp2_with (first|go_skip|((with_reducible apply En);(case ho=>rfl);(case hw=>rfl);(case hx=>rfl);(case hc=>first|exact(Aa LL).one|exact(Aa LL).two);simp only[nn])|((with_reducible apply Ev);(case ho=>rfl);(case hw=>rfl);(case hx=>rfl);(case hc=>first|exact(Aa LL).one|exact(Aa LL).two);simp only[nn])|(go_at_call 106;refine(Dy _ _).mono ?_;rintro _ _ ⟨rfl,rfl⟩))
     go_ret
     exact⟨rfl,(Aa LL).below⟩
  ·go_wp2_with (first|go_skip|((with_reducible apply Ev);(case ho=>rfl);(case hw=>rfl);(case hx=>rfl);(case hc=>first|exact(Aa LL).one|exact(Aa LL).two);simp only[nn]))
   go_ret
   exact⟨rfl,(Aa LL).below⟩
def Kr (w:World) (b:Nat) (l:List (Nat×PB)) (X:World):Prop:= ∃r,Kp w X ((b, .D r)::l)
theorem Kr.on {w X X1:World} {b:Nat} {l:List (Nat×PB)} (h:Kr w b l X) (hb:Below X.heap.size X X1):Kr w b l X1:=by
 obtain⟨r,hr⟩:=h
 exact⟨r,hr.on hb⟩
theorem Kp.of3 {w X:World} {p p2 p3:PB} (h:Lie w X [p,p2,p3]):Kp w X [(w.heap.size+2,p3),(w.heap.size,p),(w.heap.size+1,p2)]:=
 ⟨h.below,fun q hq=>by
  have hs:=h.size
  simp at hs hq
  rcases hq with rfl|rfl|rfl
  ·exact⟨Nat.le_add_right _ _,by show w.heap.size+2<X.heap.size;omega,h.holds.2.2.1⟩
  ·exact⟨Nat.le_refl _,by show w.heap.size<X.heap.size;omega,h.holds.1⟩
  ·exact⟨Nat.le_succ _,by show w.heap.size+1<X.heap.size;omega,h.holds.2.1⟩,by simp⟩
section
variable {md : Region.Mode} {ops : Array Oper} {Q : Exit → Act → World → Prop} {w0 w : World} {l : List (Nat × PB)} {rb : Nat} {fuel : Nat} {listed : Array Bool} {a : Act} {o : Oper}
theorem Jh (i:Nat) (dst:Option Tmp) (v:Value) (hi:ops[i]? =some o) (hs:Region.noSelect ops=true) (hf:Region.free md ops listed i=true) (hr:(Region.ready md ops listed).contains i=true)
  (hQ: ∀c a w,Q (.panic c) (a.put dst v) w->Q (.panic c) a w) (hd:o.dst=dst) (hy:YieldsIf prog ops (Kr w0 rb l) o v a)
  (hS:Kr w0 rb l w) (h:wpAnyH prog md ops Q (Kr w0 rb l) fuel (listed.setIfInBounds i true) (a.put dst v) w):wpAnyH prog md ops Q (Kr w0 rb l) (fuel+1) listed a w:=by
 subst hd
 exact wpAnyH_take hi hs hf hr hQ hy hS h
theorem ZaL (i:Nat) (dst:Option Tmp) {f:FuncId} {args:Array Value} {V:Value} (hi:ops[i]? =some o) (hr:Region.ready md ops listed= [i]) (hd:o.dst=dst) (hw:Region.wanted o (yielded ops a.tmps)=true)
  (he:(execOp a.eval o).run prog w= .ok (.enter f args) w) (hC:Calls prog f args w fun e w'=>e= .returned V/\Below w.heap.size w w') (hS:Kr w0 rb l w)
  (h: ∀X,Kr w0 rb l X->wpAnyH prog md ops Q (Kr w0 rb l) fuel (listed.setIfInBounds i true) (a.put dst V) X):wpAnyH prog md ops Q (Kr w0 rb l) (fuel+1) listed a w:=by
 subst hd
 refine wpAnyH_ready hr (by simp) (AllReadyH.cons hi (fun K hK=> ?_) AllReadyH.nil)
 rw[if_pos hw]
 unfold Oper.wp
 rw[he,Oper.upon_enter]
 refine hC.mono ?_
 rintro _ X ⟨rfl,hb⟩
 exact hK.out _ _ (hS.on hb) (fun hX=>h X hX)
theorem rstore (i:Nat) {x y:Operand} {u:DD} (hi:ops[i]? =some o) (hr:Region.ready md ops listed= [i]) (hd:o.dst=none) (hw:Region.wanted o (yielded ops a.tmps)=true)
  (ho:o.op= .store 39 x y) (hx:a.eval x= .pointer (some ⟨rb,0,none⟩)) (hy:a.eval y=u.agg) (hS:Kr w0 rb l w)
  (h: ∀X,Kp w0 X ((rb, .D u)::l)->wpAnyH prog md ops Q (Kr w0 rb l) fuel (listed.setIfInBounds i true) (a.put none undef) X):wpAnyH prog md ops Q (Kr w0 rb l) (fuel+1) listed a w:=by
 obtain⟨r,hK0⟩:=hS
 rw[←hd] at h
 refine wpAnyH_ready hr (by simp) (AllReadyH.cons hi (fun K hK=> ?_) AllReadyH.nil)
 rw[if_pos hw]
 have hP:=hK0.put 0 (u:=u) rfl
 exact wp_store_mid 39 x y ho _ 0 u.cs.toArray hx hy (Lies.there (hK0.get 0 rfl)) Vf (by simp[DD.cs,Value.oneCell']) (hK.out _ _ ⟨u,hP⟩ (fun _=>h _ hP))
theorem ry24v (j:Nat) {x:Operand} {b:Nat} {d:DD} (hw:Region.wanted o (yielded ops a.tmps)=true) (ho:o.op= .load 36 x) (hx:a.eval x= .pointer (some ⟨b,0,none⟩)) (hl:l[j]? =some (b, .D d)):YieldsIf prog ops (Kr w0 rb l) o d.v.agg a:=by
 obtain⟨t,hu,hd⟩:=Qg
 exact yieldsIf_load_mid hw 36 x ho b 0 hx d.v.cs t (fun X ⟨_,hX⟩=>Lies.rv (hX.get (j+1) hl)) hu hd Qh
theorem ry24g (j:Nat) {x:Operand} {b:Nat} {d:DD} (hw:Region.wanted o (yielded ops a.tmps)=true) (ho:o.op= .load 36 x) (hx:a.eval x= .pointer (some ⟨b,5,none⟩)) (hl:l[j]? =some (b, .D d)):YieldsIf prog ops (Kr w0 rb l) o d.g.agg a:=by
 obtain⟨t,hu,hd⟩:=Qg
 exact yieldsIf_load_mid hw 36 x ho b 5 hx d.g.cs t (fun X ⟨_,hX⟩=>Lies.rg (hX.get (j+1) hl)) hu hd Qh
theorem ry24s (j:Nat) {x:Operand} {b:Nat} {d:DD} (hw:Region.wanted o (yielded ops a.tmps)=true) (ho:o.op= .load 36 x) (hx:a.eval x= .pointer (some ⟨b,10,none⟩)) (hl:l[j]? =some (b, .D d)):YieldsIf prog ops (Kr w0 rb l) o d.s.agg a:=by
 obtain⟨t,hu,hd⟩:=Qg
 exact yieldsIf_load_mid hw 36 x ho b 10 hx d.s.cs t (fun X ⟨_,hX⟩=>Lies.rs (hX.get (j+1) hl)) hu hd Qh
theorem ry25w (j:Nat) {x:Operand} {b:Nat} {d:DD} (hw:Region.wanted o (yielded ops a.tmps)=true) (ho:o.op= .load 37 x) (hx:a.eval x= .pointer (some ⟨b,15,none⟩)) (hl:l[j]? =some (b, .D d)):YieldsIf prog ops (Kr w0 rb l) o (.int .i64 d.w) a:=by
 refine Or.inl ⟨hw,fun X hX=> ?_⟩
 obtain⟨_,hX⟩:=hX
 obtain⟨-,h0,h1,h2,h3,h4,h5,h6,h7,h8,h9,h10,h11,h12,h13,h14,h15,h16,h17⟩:=hX.get (j+1) hl
 unfold execOp
 simp only[ho,hx]
 simp[go_sem,h15,isAgg37]
theorem ry25e (j:Nat) {x:Operand} {b:Nat} {d:DD} (hw:Region.wanted o (yielded ops a.tmps)=true) (ho:o.op= .load 37 x) (hx:a.eval x= .pointer (some ⟨b,16,none⟩)) (hl:l[j]? =some (b, .D d)):YieldsIf prog ops (Kr w0 rb l) o (.int .i64 d.e) a:=by
 refine Or.inl ⟨hw,fun X hX=> ?_⟩
 obtain⟨_,hX⟩:=hX
 obtain⟨-,h0,h1,h2,h3,h4,h5,h6,h7,h8,h9,h10,h11,h12,h13,h14,h15,h16,h17⟩:=hX.get (j+1) hl
 unfold execOp
 simp only[ho,hx]
 simp[go_sem,h16,isAgg37]
theorem ry25c (j:Nat) {x:Operand} {b:Nat} {d:DD} (hw:Region.wanted o (yielded ops a.tmps)=true) (ho:o.op= .load 37 x) (hx:a.eval x= .pointer (some ⟨b,17,none⟩)) (hl:l[j]? =some (b, .D d)):YieldsIf prog ops (Kr w0 rb l) o (.int .i64 d.c) a:=by
 refine Or.inl ⟨hw,fun X hX=> ?_⟩
 obtain⟨_,hX⟩:=hX
 obtain⟨-,h0,h1,h2,h3,h4,h5,h6,h7,h8,h9,h10,h11,h12,h13,h14,h15,h16,h17⟩:=hX.get (j+1) hl
 unfold execOp
 simp only[ho,hx]
 simp[go_sem,h17,isAgg37]
end
theorem Za8 (t a:Int) (w:World):Calls prog 114 #[.int .i64 t, .int .i64 a] w fun e w'=>e= .returned (.int .i64 (orT t a))/\Below w.heap.size w w':=
 (Yo t a w).mono fun e w' h=>⟨h.1,by rw[h.2];exact Below.refl _ _⟩
theorem Zdw (n d:DD) (hn:FD n) (hd:FD d) (w:World):Calls prog 99 #[n.agg,d.agg] w fun e w'=>e= .returned (Rl n d).agg/\Below w.heap.size w w':=by
 have HTu:=Ab (ZaG n d hn hd)
 have HF:=Ab (Zad ⟨d.v,d.g,d.s,d.w,orT d.e n.e,orT d.c n.c⟩ ⟨hd.1,hd.2.1,hd.2.2⟩)
 have HOv:=Ab (Kj d.v n.v hd.1)
 have HOg:=Ab (Kj d.g n.g hd.2.1)
 have HOs:=Ab (Kj d.s n.s hd.2.2)
 clear hn hd
 have LL:=Ab (Lie.new3 w (.D n) (.D d) (.D Ak))
 unfold Rl
 generalize turnV n d=tu at *
 generalize Kw ⟨d.v,d.g,d.s,d.w,orT d.e n.e,orT d.c n.c⟩=fd at *
 have hq0:=Ja n
 have hq1:=Ja d
 rw[hq0,hq1]
 clear hq0 hq1
 go_enter func99,ntmps99
 go_wp2_with (first|go_skip|((with_reducible apply De);(case ho=>rfl);(case hw=>rfl);(case hx=>rfl);(case hc=>first|exact(Aa LL).one|exact(Aa LL).two|exact(Aa LL).three);simp only[nn]))
 refine(Aa HTu _).mono ?_
 rintro _ w11 ⟨rfl,hb⟩
 replace LL:=Ab ((Aa LL).on hb)
 clear hb
 cases tu
 ·go_wp2_with fail
  refine wp_region_held_drew (P:=prog) (S:=Kr w (w.heap.size+2) [(w.heap.size, .D n),(w.heap.size+1, .D d)]) (by kernel_rfl) (Kr.on ⟨Ak,(Kp.of3 (Aa LL)).drew⟩ (Below.refl _ _)) (fun hS0=> ?_)
  refine Jh 0 (some 22) (.pointer (some ⟨w.heap.size+1,0,none⟩)) rfl (by kernel_rfl) (by kernel_rfl) (by kernel_rfl) (fun _ _ _ h=>h) (by kernel_rfl) (Or.inl ⟨by kernel_rfl,fun _ _=>by kernel_rfl⟩) hS0 ?_
  simp only[nn]
  refine Jh 1 (some 23) d.v.agg rfl (by kernel_rfl) (by kernel_rfl) (by kernel_rfl) (fun _ _ _ h=>h) (by kernel_rfl) (ry24v 1 (x:= .tmp 22) (b:=w.heap.size+1) (d:=d) (by kernel_rfl) (by kernel_rfl) (by kernel_rfl) rfl) hS0 ?_
  simp only[nn]
  refine Jh 2 (some 24) (.pointer (some ⟨w.heap.size,0,none⟩)) rfl (by kernel_rfl) (by kernel_rfl) (by kernel_rfl) (fun _ _ _ h=>h) (by kernel_rfl) (Or.inl ⟨by kernel_rfl,fun _ _=>by kernel_rfl⟩) hS0 ?_
  simp only[nn]
  refine Jh 3 (some 25) n.v.agg rfl (by kernel_rfl) (by kernel_rfl) (by kernel_rfl) (fun _ _ _ h=>h) (by kernel_rfl) (ry24v 0 (x:= .tmp 24) (b:=w.heap.size) (d:=n) (by kernel_rfl) (by kernel_rfl) (by kernel_rfl) rfl) hS0 ?_
  simp only[nn]
  refine Jh 5 (some 27) (.pointer (some ⟨w.heap.size+1,5,none⟩)) rfl (by kernel_rfl) (by kernel_rfl) (by kernel_rfl) (fun _ _ _ h=>h) (by kernel_rfl) (Or.inl ⟨by kernel_rfl,fun _ _=>by kernel_rfl⟩) hS0 ?_
  simp only[nn]
  refine Jh 6 (some 28) d.g.agg rfl (by kernel_rfl) (by kernel_rfl) (by kernel_rfl) (fun _ _ _ h=>h) (by kernel_rfl) (ry24g 1 (x:= .tmp 27) (b:=w.heap.size+1) (d:=d) (by kernel_rfl) (by kernel_rfl) (by kernel_rfl) rfl) hS0 ?_
  simp only[nn]
  refine Jh 7 (some 29) (.pointer (some ⟨w.heap.size,5,none⟩)) rfl (by kernel_rfl) (by kernel_rfl) (by kernel_rfl) (fun _ _ _ h=>h) (by kernel_rfl) (Or.inl ⟨by kernel_rfl,fun _ _=>by kernel_rfl⟩) hS0 ?_
  simp only[nn]
  refine Jh 8 (some 30) n.g.agg rfl (by kernel_rfl) (by kernel_rfl) (by kernel_rfl) (fun _ _ _ h=>h) (by kernel_rfl) (ry24g 0 (x:= .tmp 29) (b:=w.heap.size) (d:=n) (by kernel_rfl) (by kernel_rfl) (by kernel_rfl) rfl) hS0 ?_
  simp only[nn]
  refine Jh 10 (some 32) (.pointer (some ⟨w.heap.size+1,10,none⟩)) rfl (by kernel_rfl) (by kernel_rfl) (by kernel_rfl) (fun _ _ _ h=>h) (by kernel_rfl) (Or.inl ⟨by kernel_rfl,fun _ _=>by kernel_rfl⟩) hS0 ?_
  simp only[nn]
  refine Jh 11 (some 33) d.s.agg rfl (by kernel_rfl) (by kernel_rfl) (by kernel_rfl) (fun _ _ _ h=>h) (by kernel_rfl) (ry24s 1 (x:= .tmp 32) (b:=w.heap.size+1) (d:=d) (by kernel_rfl) (by kernel_rfl) (by kernel_rfl) rfl) hS0 ?_
  simp only[nn]
  refine Jh 12 (some 34) (.pointer (some ⟨w.heap.size,10,none⟩)) rfl (by kernel_rfl) (by kernel_rfl) (by kernel_rfl) (fun _ _ _ h=>h) (by kernel_rfl) (Or.inl ⟨by kernel_rfl,fun _ _=>by kernel_rfl⟩) hS0 ?_
  simp only[nn]
  refine Jh 13 (some 35) n.s.agg rfl (by kernel_rfl) (by kernel_rfl) (by kernel_rfl) (fun _ _ _ h=>h) (by kernel_rfl) (ry24s 0 (x:= .tmp 34) (b:=w.heap.size) (d:=n) (by kernel_rfl) (by kernel_rfl) (by kernel_rfl) rfl) hS0 ?_
  simp only[nn]
  refine Jh 15 (some 37) (.pointer (some ⟨w.heap.size+1,15,none⟩)) rfl (by kernel_rfl) (by kernel_rfl) (by kernel_rfl) (fun _ _ _ h=>h) (by kernel_rfl) (Or.inl ⟨by kernel_rfl,fun _ _=>by kernel_rfl⟩) hS0 ?_
  simp only[nn]
  refine Jh 16 (some 38) (.int .i64 d.w) rfl (by kernel_rfl) (by kernel_rfl) (by kernel_rfl) (fun _ _ _ h=>h) (by kernel_rfl) (ry25w 1 (x:= .tmp 37) (b:=w.heap.size+1) (d:=d) (by kernel_rfl) (by kernel_rfl) (by kernel_rfl) rfl) hS0 ?_
  simp only[nn]
  refine Jh 17 (some 39) (.pointer (some ⟨w.heap.size,15,none⟩)) rfl (by kernel_rfl) (by kernel_rfl) (by kernel_rfl) (fun _ _ _ h=>h) (by kernel_rfl) (Or.inl ⟨by kernel_rfl,fun _ _=>by kernel_rfl⟩) hS0 ?_
  simp only[nn]
  refine Jh 18 (some 40) (.int .i64 n.w) rfl (by kernel_rfl) (by kernel_rfl) (by kernel_rfl) (fun _ _ _ h=>h) (by kernel_rfl) (ry25w 0 (x:= .tmp 39) (b:=w.heap.size) (d:=n) (by kernel_rfl) (by kernel_rfl) (by kernel_rfl) rfl) hS0 ?_
  simp only[nn]
  refine Jh 20 (some 42) (.pointer (some ⟨w.heap.size+1,16,none⟩)) rfl (by kernel_rfl) (by kernel_rfl) (by kernel_rfl) (fun _ _ _ h=>h) (by kernel_rfl) (Or.inl ⟨by kernel_rfl,fun _ _=>by kernel_rfl⟩) hS0 ?_
  simp only[nn]
  refine Jh 21 (some 43) (.int .i64 d.e) rfl (by kernel_rfl) (by kernel_rfl) (by kernel_rfl) (fun _ _ _ h=>h) (by kernel_rfl) (ry25e 1 (x:= .tmp 42) (b:=w.heap.size+1) (d:=d) (by kernel_rfl) (by kernel_rfl) (by kernel_rfl) rfl) hS0 ?_
  simp only[nn]
  refine Jh 22 (some 44) (.pointer (some ⟨w.heap.size,16,none⟩)) rfl (by kernel_rfl) (by kernel_rfl) (by kernel_rfl) (fun _ _ _ h=>h) (by kernel_rfl) (Or.inl ⟨by kernel_rfl,fun _ _=>by kernel_rfl⟩) hS0 ?_
  simp only[nn]
  refine Jh 23 (some 45) (.int .i64 n.e) rfl (by kernel_rfl) (by kernel_rfl) (by kernel_rfl) (fun _ _ _ h=>h) (by kernel_rfl) (ry25e 0 (x:= .tmp 44) (b:=w.heap.size) (d:=n) (by kernel_rfl) (by kernel_rfl) (by kernel_rfl) rfl) hS0 ?_
  simp only[nn]
  refine Jh 25 (some 47) (.pointer (some ⟨w.heap.size+1,17,none⟩)) rfl (by kernel_rfl) (by kernel_rfl) (by kernel_rfl) (fun _ _ _ h=>h) (by kernel_rfl) (Or.inl ⟨by kernel_rfl,fun _ _=>by kernel_rfl⟩) hS0 ?_
  simp only[nn]
  refine Jh 26 (some 48) (.int .i64 d.c) rfl (by kernel_rfl) (by kernel_rfl) (by kernel_rfl) (fun _ _ _ h=>h) (by kernel_rfl) (ry25c 1 (x:= .tmp 47) (b:=w.heap.size+1) (d:=d) (by kernel_rfl) (by kernel_rfl) (by kernel_rfl) rfl) hS0 ?_
  simp only[nn]
  refine Jh 27 (some 49) (.pointer (some ⟨w.heap.size,17,none⟩)) rfl (by kernel_rfl) (by kernel_rfl) (by kernel_rfl) (fun _ _ _ h=>h) (by kernel_rfl) (Or.inl ⟨by kernel_rfl,fun _ _=>by kernel_rfl⟩) hS0 ?_
  simp only[nn]
  refine Jh 28 (some 50) (.int .i64 n.c) rfl (by kernel_rfl) (by kernel_rfl) (by kernel_rfl) (fun _ _ _ h=>h) (by kernel_rfl) (ry25c 0 (x:= .tmp 49) (b:=w.heap.size) (d:=n) (by kernel_rfl) (by kernel_rfl) (by kernel_rfl) rfl) hS0 ?_
  simp only[nn]
  refine ZaL 4 (some 26) rfl (by kernel_rfl) (by kernel_rfl) (by kernel_rfl) (by kernel_rfl) (Aa HOv _) hS0 (fun w1 hS1=> ?_)
  clear hS0
  simp only[nn]
  refine ZaL 9 (some 31) rfl (by kernel_rfl) (by kernel_rfl) (by kernel_rfl) (by kernel_rfl) (Aa HOg _) hS1 (fun w2 hS2=> ?_)
  clear hS1
  simp only[nn]
  refine ZaL 14 (some 36) rfl (by kernel_rfl) (by kernel_rfl) (by kernel_rfl) (by kernel_rfl) (Aa HOs _) hS2 (fun w3 hS3=> ?_)
  clear hS2
  simp only[nn]
  refine ZaL 19 (some 41) rfl (by kernel_rfl) (by kernel_rfl) (by kernel_rfl) (by kernel_rfl) (Za8 d.w n.w _) hS3 (fun w4 hS4=> ?_)
  clear hS3
  simp only[nn]
  refine ZaL 24 (some 46) rfl (by kernel_rfl) (by kernel_rfl) (by kernel_rfl) (by kernel_rfl) (Za8 d.e n.e _) hS4 (fun w5 hS5=> ?_)
  clear hS4
  simp only[nn]
  refine ZaL 29 (some 51) rfl (by kernel_rfl) (by kernel_rfl) (by kernel_rfl) (by kernel_rfl) (Za8 d.c n.c _) hS5 (fun w6 hS6=> ?_)
  clear hS5
  simp only[nn]
  refine Jh 30 (some 52) (DD.agg ⟨orV d.v n.v,orV d.g n.g,orV d.s n.s,orT d.w n.w,orT d.e n.e,orT d.c n.c⟩) rfl (by kernel_rfl) (by kernel_rfl) (by kernel_rfl) (fun _ _ _ h=>h) (by kernel_rfl) (Or.inl ⟨by kernel_rfl,fun _ _=>by kernel_rfl⟩) hS6 ?_
  simp only[nn]
  refine rstore 31 (x:= .tmp 4) (y:= .tmp 52) (u:=⟨orV d.v n.v,orV d.g n.g,orV d.s n.s,orT d.w n.w,orT d.e n.e,orT d.c n.c⟩) rfl (by kernel_rfl) (by kernel_rfl) (by kernel_rfl) (by kernel_rfl) (by kernel_rfl) (by kernel_rfl) hS6 (fun w7 hK=> ?_)
  clear hS6
  try simp only[nn]
  refine wpAnyH_done (by kernel_rfl) ?_ _
  go_wp2_with fail
  refine Zb3 rfl rfl rfl (hK.get 0 rfl) ?_
  exact⟨rfl,hK.below⟩
 ·go_wp2_with (first|go_skip|((with_reducible apply De);(case ho=>rfl);(case hw=>rfl);(case hx=>rfl);(case hc=>first|exact(Aa LL).one|exact(Aa LL).two|exact(Aa LL).three);simp only[nn])|((with_reducible apply En);(case ho=>rfl);(case hw=>rfl);(case hx=>rfl);(case hc=>first|exact(Aa LL).one|exact(Aa LL).two|exact(Aa LL).three);simp only[nn])|((with_reducible apply Ev);(case ho=>rfl);(case hw=>rfl);(case hx=>rfl);(case hc=>first|exact(Aa LL).one|exact(Aa LL).two|exact(Aa LL).three);simp only[nn])|((with_reducible apply Yy 1);(case ho=>rfl);(case hw=>rfl);(case hL=>exact Aa LL);(case hi=>rfl);(case hx=>rfl);(case hy=>rfl);(intro X LX;simp only[nn];replace LL:=Ab LX;clear LX))|((with_reducible apply Yz 1);(case ho=>rfl);(case hw=>rfl);(case hL=>exact Aa LL);(case hi=>rfl);(case hx=>rfl);(case hy=>rfl);(intro X LX;simp only[nn];replace LL:=Ab LX;clear LX))|(go_at_call 114;refine(Yo _ _ _).mono ?_;rintro _ _ ⟨rfl,rfl⟩))
  refine(Aa HF _).mono ?_
  rintro _ w11 ⟨rfl,hb⟩
  replace LL:=Ab ((Aa LL).on hb)
  clear hb
  go_wp2_with (first|go_skip|((with_reducible apply Km 2);(case ho=>rfl);(case hw=>rfl);(case hL=>exact Aa LL);(case hi=>rfl);(case hx=>rfl);(case hy=>rfl);(intro X LX;simp only[nn];replace LL:=Ab LX;clear LX)))
  refine Zb3 rfl rfl rfl (Aa LL).three ?_
  exact⟨rfl,(Aa LL).below⟩
