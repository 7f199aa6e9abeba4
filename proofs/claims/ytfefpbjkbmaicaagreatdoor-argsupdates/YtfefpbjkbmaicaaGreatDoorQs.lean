import Derived.Test.YtfefpbjkbmaicaaGreatDoorQr
set_option linter.all false
namespace Go.Proofs.YtfefpbjkbmaicaaGreatDoor
set_option maxRecDepth 100000
set_option maxHeartbeats 0
section
open Go Go.Proofs Go.RowKit FM Tryz
def orT (t a:Int):Int:=if t !=0 then t else a
def Ls (d:DD):DD:=if Df d==3 then ⟨d.v,orV d.g Ea,orV d.s Ea,d.w,orT d.e 1,orT d.c 1⟩ else ⟨orV d.v Ea,d.g,d.s,orT d.w 1,orT d.e 1,orT d.c 1⟩
theorem Ur (d:DD) (hs:d.v.s.size<=1048576) (w:World):Calls prog 106 #[d.agg] w fun e w'=>e= .returned d.agg/\Below w.heap.size w w':=by
 have HC:=Ac (fun w=>Lt d.v.s w hs)
 have LL:=Ac (Lie.new2 w (.D d) (.D Bx))
 have hq0:=Gi d
 rw[hq0]
 clear hq0
 go_enter func106,ntmps106
 go_wp2_with (first|go_skip|((with_reducible apply Bh);(case ho=>rfl);(case hw=>rfl);(case hx=>rfl);(case hc=>first|exact(Aa LL).one|exact(Aa LL).two);simp only[nn])|((with_reducible apply Do 1);(case ho=>rfl);(case hL=>exact Aa LL);(case hi=>rfl);(case hx=>rfl);(case hw=>rfl);(case hy=>rfl);(intro X LX;simp only[nn];replace LL:=Ac LX;clear LX))|((with_reducible apply store9 0);(case ho=>rfl);(case hL=>exact Aa LL);(case hi=>rfl);(case hx=>rfl);(case hw=>rfl);(case hy=>rfl);(intro X LX;simp only[nn];replace LL:=Ac LX;clear LX)))
 refine(Aa HC _).mono ?_
 rintro _ w1 ⟨rfl,hb⟩
 replace LL:=Ac ((Aa LL).on hb)
 clear hb
 go_wp2_with (first|go_skip|((with_reducible apply Bh);(case ho=>rfl);(case hw=>rfl);(case hx=>rfl);(case hc=>first|exact(Aa LL).one|exact(Aa LL).two);simp only[nn])|((with_reducible apply Do 1);(case ho=>rfl);(case hL=>exact Aa LL);(case hi=>rfl);(case hx=>rfl);(case hw=>rfl);(case hy=>rfl);(intro X LX;simp only[nn];replace LL:=Ac LX;clear LX))|((with_reducible apply store9 0);(case ho=>rfl);(case hL=>exact Aa LL);(case hi=>rfl);(case hx=>rfl);(case hw=>rfl);(case hy=>rfl);(intro X LX;simp only[nn];replace LL:=Ac LX;clear LX)))
 refine Ze rfl rfl rfl (Aa LL).two ?_
 exact⟨rfl,(Aa LL).below⟩
theorem Oz (t a:Int) (w:World):Calls prog 122 #[.int .i64 t, .int .i64 a] w fun e w'=>e= .returned (.int .i64 (orT t a))/\w'=w:=ZbW t a w
theorem Lie.putv {w W:World} {d:DD} {l:List PB} (h:Lie w W (.D d::l)) (u:VV):Lie w (W.setCells w.heap.size 0 u.cs) (.D {d with v:=u}::l):=
 Lie.put (i:=0) (o:=0) (vs:=u.cs) (p:= .D {d with v:=u}) (q:= .D d) h rfl (fun hq=>Lies.setv hq)
theorem Lie.putg {w W:World} {d:DD} {l:List PB} (h:Lie w W (.D d::l)) (u:VV):Lie w (W.setCells w.heap.size 5 u.cs) (.D {d with g:=u}::l):=
 Lie.put (i:=0) (o:=5) (vs:=u.cs) (p:= .D {d with g:=u}) (q:= .D d) h rfl (fun hq=>Lies.setg hq)
theorem Lie.puts {w W:World} {d:DD} {l:List PB} (h:Lie w W (.D d::l)) (u:VV):Lie w (W.setCells w.heap.size 10 u.cs) (.D {d with s:=u}::l):=
 Lie.put (i:=0) (o:=10) (vs:=u.cs) (p:= .D {d with s:=u}) (q:= .D d) h rfl (fun hq=>Lies.sets hq)
attribute [local go_sem] Dt
theorem Uk (d:DD) (hd:FD d) (w:World):Calls prog 107 #[d.agg] w fun e w'=>e= .returned (Ls d).agg/\Below w.heap.size w w':=by
 have HB:=Ac (Di d hd)
 have HU:=Ac (Lc)
 have HV:=Ac (Jc d.v Ea hd.1)
 have HG:=Ac (Jc d.g Ea hd.2.1)
 have HS:=Ac (Jc d.s Ea hd.2.2)
 clear hd
 have LL:=Ac (Lie.new2 w (.D d) (.D Bx))
 unfold Ls
 generalize Df d=sh at *
 unfold VV.agg at HU HV HG HS
 dsimp only at HU
 have hq0:=Gi d
 rw[hq0]
 clear hq0
 by_cases h3:sh=3
 ·subst h3
  go_enter func107,ntmps107
  go_wp2_with (first|go_skip|((with_reducible apply Bh);(case ho=>rfl);(case hw=>rfl);(case hx=>rfl);(case hc=>first|exact(Aa LL).one|exact(Aa LL).two);simp only[nn])|(go_at_call 100;refine(Ae _ _).mono ?_;rintro _ _ ⟨rfl,rfl⟩)|(go_at_call 99;refine(Ab _ _).mono ?_;rintro _ _ ⟨rfl,rfl⟩)|(go_at_call 72;refine(Ad _ _).mono ?_;rintro _ _ ⟨rfl,rfl⟩))
  refine(Aa HB _).mono ?_
  rintro _ w1 ⟨rfl,hb⟩
  replace LL:=Ac ((Aa LL).on hb)
  clear hb
  go_wp2_with fail
  obtain⟨f0,c0,c1,c2,c3,c4,c5,c6,c7,c8,c9,c10,c11,c12,c13,c14,c15,c16,c17⟩:=(Aa LL).one
  try dsimp only at f0 c0 c1 c2 c3 c4 c5 c6 c7 c8 c9 c10 c11 c12 c13 c14 c15 c16 c17
  go_region_with (first|(go_at_call 74;refine(Aa HU _).mono ?_;rintro _ wu ⟨rfl,hbwu⟩;have LU:=Ac ((Aa LL).drew.on hbwu);clear f0 c0 c1 c2 c3 c4 c5 c6 c7 c8 c9 c10 c11 c12 c13 c14 c15 c16 c17;obtain⟨f0,c0,c1,c2,c3,c4,c5,c6,c7,c8,c9,c10,c11,c12,c13,c14,c15,c16,c17⟩:=(Aa LU).one;try dsimp only at f0 c0 c1 c2 c3 c4 c5 c6 c7 c8 c9 c10 c11 c12 c13 c14 c15 c16 c17)|(go_at_call 121;refine(Aa HG _).mono ?_;rintro _ wv ⟨rfl,hbwv⟩;have LV:=Ac ((Aa LU).on hbwv);clear f0 c0 c1 c2 c3 c4 c5 c6 c7 c8 c9 c10 c11 c12 c13 c14 c15 c16 c17;obtain⟨f0,c0,c1,c2,c3,c4,c5,c6,c7,c8,c9,c10,c11,c12,c13,c14,c15,c16,c17⟩:=(Aa LV).one;try dsimp only at f0 c0 c1 c2 c3 c4 c5 c6 c7 c8 c9 c10 c11 c12 c13 c14 c15 c16 c17))
  all_goals
   clear hbwu hbwv LU f0 c0 c1 c2 c3 c4 c5 c6 c7 c8 c9 c10 c11 c12 c13 c14 c15 c16 c17
   have LX:Lie w (World.setCell (World.setCell (World.setCell (World.setCell (World.setCell wv ⟨w.heap.size,5,none⟩ (.int .i64 (orV d.g Ea).k)) ⟨w.heap.size,6,none⟩ (.bool (orV d.g Ea).b)) ⟨w.heap.size,7,none⟩ (.float .f64 (orV d.g Ea).x)) ⟨w.heap.size,8,none⟩ (.string (orV d.g Ea).s)) ⟨w.heap.size,9,none⟩ (.int .i64 (orV d.g Ea).i)) [.D {d with g:=orV d.g Ea}, .D Bx]:=(Aa LV).putg (orV d.g Ea)
   replace LL:=Ac LX
   clear LV LX
   generalize (World.setCell (World.setCell (World.setCell (World.setCell (World.setCell wv ⟨w.heap.size,5,none⟩ (.int .i64 (orV d.g Ea).k)) ⟨w.heap.size,6,none⟩ (.bool (orV d.g Ea).b)) ⟨w.heap.size,7,none⟩ (.float .f64 (orV d.g Ea).x)) ⟨w.heap.size,8,none⟩ (.string (orV d.g Ea).s)) ⟨w.heap.size,9,none⟩ (.int .i64 (orV d.g Ea).i))=X at LL ⊢
  all_goals
   go_wp2_with fail
   obtain⟨f0,c0,c1,c2,c3,c4,c5,c6,c7,c8,c9,c10,c11,c12,c13,c14,c15,c16,c17⟩:=(Aa LL).one
   try dsimp only at f0 c0 c1 c2 c3 c4 c5 c6 c7 c8 c9 c10 c11 c12 c13 c14 c15 c16 c17
   go_region_with (first|(go_at_call 74;refine(Aa HU _).mono ?_;rintro _ wu ⟨rfl,hbwu⟩;have LU:=Ac ((Aa LL).drew.on hbwu);clear f0 c0 c1 c2 c3 c4 c5 c6 c7 c8 c9 c10 c11 c12 c13 c14 c15 c16 c17;obtain⟨f0,c0,c1,c2,c3,c4,c5,c6,c7,c8,c9,c10,c11,c12,c13,c14,c15,c16,c17⟩:=(Aa LU).one;try dsimp only at f0 c0 c1 c2 c3 c4 c5 c6 c7 c8 c9 c10 c11 c12 c13 c14 c15 c16 c17)|(go_at_call 121;refine(Aa HS _).mono ?_;rintro _ wv ⟨rfl,hbwv⟩;have LV:=Ac ((Aa LU).on hbwv);clear f0 c0 c1 c2 c3 c4 c5 c6 c7 c8 c9 c10 c11 c12 c13 c14 c15 c16 c17;obtain⟨f0,c0,c1,c2,c3,c4,c5,c6,c7,c8,c9,c10,c11,c12,c13,c14,c15,c16,c17⟩:=(Aa LV).one;try dsimp only at f0 c0 c1 c2 c3 c4 c5 c6 c7 c8 c9 c10 c11 c12 c13 c14 c15 c16 c17))
   all_goals
    clear hbwu hbwv LU f0 c0 c1 c2 c3 c4 c5 c6 c7 c8 c9 c10 c11 c12 c13 c14 c15 c16 c17
    have LX:Lie w (World.setCell (World.setCell (World.setCell (World.setCell (World.setCell wv ⟨w.heap.size,10,none⟩ (.int .i64 (orV d.s Ea).k)) ⟨w.heap.size,11,none⟩ (.bool (orV d.s Ea).b)) ⟨w.heap.size,12,none⟩ (.float .f64 (orV d.s Ea).x)) ⟨w.heap.size,13,none⟩ (.string (orV d.s Ea).s)) ⟨w.heap.size,14,none⟩ (.int .i64 (orV d.s Ea).i)) [.D {{d with g:=orV d.g Ea} with s:=orV d.s Ea}, .D Bx]:=(Aa LV).puts (orV d.s Ea)
    replace LL:=Ac LX
    clear LV LX
    generalize (World.setCell (World.setCell (World.setCell (World.setCell (World.setCell wv ⟨w.heap.size,10,none⟩ (.int .i64 (orV d.s Ea).k)) ⟨w.heap.size,11,none⟩ (.bool (orV d.s Ea).b)) ⟨w.heap.size,12,none⟩ (.float .f64 (orV d.s Ea).x)) ⟨w.heap.size,13,none⟩ (.string (orV d.s Ea).s)) ⟨w.heap.size,14,none⟩ (.int .i64 (orV d.s Ea).i))=X at LL ⊢
   all_goals
    go_wp2_with (first|go_skip|((with_reducible apply Bh);(case ho=>rfl);(case hw=>rfl);(case hx=>rfl);(case hc=>first|exact(Aa LL).one);simp only[nn])|((with_reducible apply Bl);(case ho=>rfl);(case hw=>rfl);(case hx=>rfl);(case hc=>first|exact(Aa LL).one);simp only[nn])|((with_reducible apply Bj);(case ho=>rfl);(case hw=>rfl);(case hx=>rfl);(case hc=>first|exact(Aa LL).one);simp only[nn])|((with_reducible apply At);(case ho=>rfl);(case hw=>rfl);(case hx=>rfl);(case hc=>first|exact(Aa LL).one);simp only[nn])|((with_reducible apply Yt 0);(case ho=>rfl);(case hw=>rfl);(case hL=>exact Aa LL);(case hi=>rfl);(case hx=>rfl);(case hy=>rfl);(intro X LX;simp only[nn];replace LL:=Ac LX;clear LX))|((with_reducible apply Pc 0);(case ho=>rfl);(case hw=>rfl);(case hL=>exact Aa LL);(case hi=>rfl);(case hx=>rfl);(case hy=>rfl);(intro X LX;simp only[nn];replace LL:=Ac LX;clear LX))|((with_reducible apply Pd 0);(case ho=>rfl);(case hw=>rfl);(case hL=>exact Aa LL);(case hi=>rfl);(case hx=>rfl);(case hy=>rfl);(intro X LX;simp only[nn];replace LL:=Ac LX;clear LX))|((with_reducible apply Do 1);(case ho=>rfl);(case hw=>rfl);(case hL=>exact Aa LL);(case hi=>rfl);(case hx=>rfl);(case hy=>rfl);(intro X LX;simp only[nn];replace LL:=Ac LX;clear LX))|(go_at_call 122;refine(Oz _ _ _).mono ?_;rintro _ _ ⟨rfl,rfl⟩))
    refine Ze rfl rfl rfl (Aa LL).two ?_
    exact⟨rfl,(Aa LL).below⟩
 ·have e3:(sh==3)=false:=by simp[h3]
  rw[e3]
  go_enter func107,ntmps107
  go_wp2_with (first|go_skip|((with_reducible apply Bh);(case ho=>rfl);(case hw=>rfl);(case hx=>rfl);(case hc=>first|exact(Aa LL).one|exact(Aa LL).two);simp only[nn])|(go_at_call 100;refine(Ae _ _).mono ?_;rintro _ _ ⟨rfl,rfl⟩)|(go_at_call 99;refine(Ab _ _).mono ?_;rintro _ _ ⟨rfl,rfl⟩)|(go_at_call 72;refine(Ad _ _).mono ?_;rintro _ _ ⟨rfl,rfl⟩))
  refine(Aa HB _).mono ?_
  rintro _ w2 ⟨rfl,hb⟩
  replace LL:=Ac ((Aa LL).on hb)
  clear hb
  go_wp2_with fail
  obtain⟨f0,c0,c1,c2,c3,c4,c5,c6,c7,c8,c9,c10,c11,c12,c13,c14,c15,c16,c17⟩:=(Aa LL).one
  try dsimp only at f0 c0 c1 c2 c3 c4 c5 c6 c7 c8 c9 c10 c11 c12 c13 c14 c15 c16 c17
  go_region_with (first|(go_at_call 74;refine(Aa HU _).mono ?_;rintro _ wu ⟨rfl,hbwu⟩;have LU:=Ac ((Aa LL).drew.on hbwu);clear f0 c0 c1 c2 c3 c4 c5 c6 c7 c8 c9 c10 c11 c12 c13 c14 c15 c16 c17;obtain⟨f0,c0,c1,c2,c3,c4,c5,c6,c7,c8,c9,c10,c11,c12,c13,c14,c15,c16,c17⟩:=(Aa LU).one;try dsimp only at f0 c0 c1 c2 c3 c4 c5 c6 c7 c8 c9 c10 c11 c12 c13 c14 c15 c16 c17)|(go_at_call 121;refine(Aa HV _).mono ?_;rintro _ wv ⟨rfl,hbwv⟩;have LV:=Ac ((Aa LU).on hbwv);clear f0 c0 c1 c2 c3 c4 c5 c6 c7 c8 c9 c10 c11 c12 c13 c14 c15 c16 c17;obtain⟨f0,c0,c1,c2,c3,c4,c5,c6,c7,c8,c9,c10,c11,c12,c13,c14,c15,c16,c17⟩:=(Aa LV).one;try dsimp only at f0 c0 c1 c2 c3 c4 c5 c6 c7 c8 c9 c10 c11 c12 c13 c14 c15 c16 c17))
  all_goals
   clear hbwu hbwv LU f0 c0 c1 c2 c3 c4 c5 c6 c7 c8 c9 c10 c11 c12 c13 c14 c15 c16 c17
   have LX:Lie w (World.setCell (World.setCell (World.setCell (World.setCell (World.setCell wv ⟨w.heap.size,0,none⟩ (.int .i64 (orV d.v Ea).k)) ⟨w.heap.size,1,none⟩ (.bool (orV d.v Ea).b)) ⟨w.heap.size,2,none⟩ (.float .f64 (orV d.v Ea).x)) ⟨w.heap.size,3,none⟩ (.string (orV d.v Ea).s)) ⟨w.heap.size,4,none⟩ (.int .i64 (orV d.v Ea).i)) [.D {d with v:=orV d.v Ea}, .D Bx]:=(Aa LV).putv (orV d.v Ea)
   replace LL:=Ac LX
   clear LV LX
   generalize (World.setCell (World.setCell (World.setCell (World.setCell (World.setCell wv ⟨w.heap.size,0,none⟩ (.int .i64 (orV d.v Ea).k)) ⟨w.heap.size,1,none⟩ (.bool (orV d.v Ea).b)) ⟨w.heap.size,2,none⟩ (.float .f64 (orV d.v Ea).x)) ⟨w.heap.size,3,none⟩ (.string (orV d.v Ea).s)) ⟨w.heap.size,4,none⟩ (.int .i64 (orV d.v Ea).i))=X at LL ⊢
  all_goals
   go_wp2_with (first|go_skip|((with_reducible apply Bh);(case ho=>rfl);(case hw=>rfl);(case hx=>rfl);(case hc=>first|exact(Aa LL).one);simp only[nn])|((with_reducible apply Bl);(case ho=>rfl);(case hw=>rfl);(case hx=>rfl);(case hc=>first|exact(Aa LL).one);simp only[nn])|((with_reducible apply Bj);(case ho=>rfl);(case hw=>rfl);(case hx=>rfl);(case hc=>first|exact(Aa LL).one);simp only[nn])|((with_reducible apply At);(case ho=>rfl);(case hw=>rfl);(case hx=>rfl);(case hc=>first|exact(Aa LL).one);simp only[nn])|((with_reducible apply Yt 0);(case ho=>rfl);(case hw=>rfl);(case hL=>exact Aa LL);(case hi=>rfl);(case hx=>rfl);(case hy=>rfl);(intro X LX;simp only[nn];replace LL:=Ac LX;clear LX))|((with_reducible apply Pc 0);(case ho=>rfl);(case hw=>rfl);(case hL=>exact Aa LL);(case hi=>rfl);(case hx=>rfl);(case hy=>rfl);(intro X LX;simp only[nn];replace LL:=Ac LX;clear LX))|((with_reducible apply Pd 0);(case ho=>rfl);(case hw=>rfl);(case hL=>exact Aa LL);(case hi=>rfl);(case hx=>rfl);(case hy=>rfl);(intro X LX;simp only[nn];replace LL:=Ac LX;clear LX))|((with_reducible apply Do 1);(case ho=>rfl);(case hw=>rfl);(case hL=>exact Aa LL);(case hi=>rfl);(case hx=>rfl);(case hy=>rfl);(intro X LX;simp only[nn];replace LL:=Ac LX;clear LX))|(go_at_call 122;refine(Oz _ _ _).mono ?_;rintro _ _ ⟨rfl,rfl⟩))
   refine Ze rfl rfl rfl (Aa LL).two ?_
   exact⟨rfl,(Aa LL).below⟩
