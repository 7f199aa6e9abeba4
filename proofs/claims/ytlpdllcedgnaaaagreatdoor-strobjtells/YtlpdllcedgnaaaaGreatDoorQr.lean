import Derived.Test.YtlpdllcedgnaaaaGreatDoorQq
set_option linter.all false
namespace Go.Proofs.YtlpdllcedgnaaaaGreatDoor
set_option maxRecDepth 100000
set_option maxHeartbeats 0
section
open Go Go.Proofs Go.RowKit FM Tryz
def orT (t a:Int):Int:=if t !=0 then t else a
def Jj (d:DD):DD:=if Bs d==3 then ⟨d.v,orV d.g Dv,orV d.s Dv,d.w,orT d.e 1,orT d.c 1⟩ else ⟨orV d.v Dv,d.g,d.s,orT d.w 1,orT d.e 1,orT d.c 1⟩
theorem Vh (d:DD) (hs:d.v.s.size<=1048576) (w:World):Calls prog 110 #[d.agg] w fun e w'=>e= .returned d.agg/\Below w.heap.size w w':=by
 have HC:=Ab (fun w=>Pz d.v.s w hs)
 have LL:=Ab (Lie.new2 w (.D d) (.D Al))
 have hq0:=Ev d
 rw[hq0]
 clear hq0
 go_enter func110,ntmps110
 go_wp2_with (first|go_skip|((with_reducible apply Ap);(case ho=>rfl);(case hw=>rfl);(case hx=>rfl);(case hc=>first|exact(Aa LL).one|exact(Aa LL).two);simp only[nn])|((with_reducible apply Da 1);(case ho=>rfl);(case hL=>exact Aa LL);(case hi=>rfl);(case hx=>rfl);(case hw=>rfl);(case hy=>rfl);(intro X LX;simp only[nn];replace LL:=Ab LX;clear LX))|((with_reducible apply store9 0);(case ho=>rfl);(case hL=>exact Aa LL);(case hi=>rfl);(case hx=>rfl);(case hw=>rfl);(case hy=>rfl);(intro X LX;simp only[nn];replace LL:=Ab LX;clear LX)))
 refine(Aa HC _).mono ?_
 rintro _ w1 ⟨rfl,hb⟩
 replace LL:=Ab ((Aa LL).on hb)
 clear hb
 go_wp2_with (first|go_skip|((with_reducible apply Ap);(case ho=>rfl);(case hw=>rfl);(case hx=>rfl);(case hc=>first|exact(Aa LL).one|exact(Aa LL).two);simp only[nn])|((with_reducible apply Da 1);(case ho=>rfl);(case hL=>exact Aa LL);(case hi=>rfl);(case hx=>rfl);(case hw=>rfl);(case hy=>rfl);(intro X LX;simp only[nn];replace LL:=Ab LX;clear LX))|((with_reducible apply store9 0);(case ho=>rfl);(case hL=>exact Aa LL);(case hi=>rfl);(case hx=>rfl);(case hw=>rfl);(case hy=>rfl);(intro X LX;simp only[nn];replace LL:=Ab LX;clear LX)))
 refine Zam rfl rfl rfl (Aa LL).two ?_
 exact⟨rfl,(Aa LL).below⟩
theorem Nz (t a:Int) (w:World):Calls prog 130 #[.int .i64 t, .int .i64 a] w fun e w'=>e= .returned (.int .i64 (orT t a))/\w'=w:=ZcT t a w
theorem Lie.putv {w W:World} {d:DD} {l:List PB} (h:Lie w W (.D d::l)) (u:VV):Lie w (W.setCells w.heap.size 0 u.cs) (.D {d with v:=u}::l):=
 Lie.put (i:=0) (o:=0) (vs:=u.cs) (p:= .D {d with v:=u}) (q:= .D d) h rfl (fun hq=>Lies.setv hq)
theorem Lie.putg {w W:World} {d:DD} {l:List PB} (h:Lie w W (.D d::l)) (u:VV):Lie w (W.setCells w.heap.size 5 u.cs) (.D {d with g:=u}::l):=
 Lie.put (i:=0) (o:=5) (vs:=u.cs) (p:= .D {d with g:=u}) (q:= .D d) h rfl (fun hq=>Lies.setg hq)
theorem Lie.puts {w W:World} {d:DD} {l:List PB} (h:Lie w W (.D d::l)) (u:VV):Lie w (W.setCells w.heap.size 10 u.cs) (.D {d with s:=u}::l):=
 Lie.put (i:=0) (o:=10) (vs:=u.cs) (p:= .D {d with s:=u}) (q:= .D d) h rfl (fun hq=>Lies.sets hq)
attribute [local go_sem] Dl
theorem Us (d:DD) (hd:FD d) (w:World):Calls prog 111 #[d.agg] w fun e w'=>e= .returned (Jj d).agg/\Below w.heap.size w w':=by
 have HB:=Ab (Bp d hd)
 have HU:=Ab (Na)
 have HV:=Ab (Gm d.v Dv hd.1)
 have HG:=Ab (Gm d.g Dv hd.2.1)
 have HS:=Ab (Gm d.s Dv hd.2.2)
 clear hd
 have LL:=Ab (Lie.new2 w (.D d) (.D Al))
 unfold Jj
 generalize Bs d=sh at *
 unfold VV.agg at HU HV HG HS
 dsimp only at HU
 have hq0:=Ev d
 rw[hq0]
 clear hq0
 by_cases h3:sh=3
 ·subst h3
  go_enter func111,ntmps111
  go_wp2_with (first|go_skip|((with_reducible apply Ap);(case ho=>rfl);(case hw=>rfl);(case hx=>rfl);(case hc=>first|exact(Aa LL).one|exact(Aa LL).two);simp only[nn])|(go_at_call 119;refine(Ae _ _).mono ?_;rintro _ _ ⟨rfl,rfl⟩)|(go_at_call 118;refine(Ac _ _).mono ?_;rintro _ _ ⟨rfl,rfl⟩))
  refine(Aa HB _).mono ?_
  rintro _ w1 ⟨rfl,hb⟩
  replace LL:=Ab ((Aa LL).on hb)
  clear hb
  go_wp2_with fail
  obtain⟨f0,c0,c1,c2,c3,c4,c5,c6,c7,c8,c9,c10,c11,c12,c13,c14,c15,c16,c17⟩:=(Aa LL).one
  try dsimp only at f0 c0 c1 c2 c3 c4 c5 c6 c7 c8 c9 c10 c11 c12 c13 c14 c15 c16 c17
  go_region_with (first|(go_at_call 129;refine(Aa HU _).mono ?_;rintro _ wu ⟨rfl,hbwu⟩;have LU:=Ab ((Aa LL).drew.on hbwu);clear f0 c0 c1 c2 c3 c4 c5 c6 c7 c8 c9 c10 c11 c12 c13 c14 c15 c16 c17;obtain⟨f0,c0,c1,c2,c3,c4,c5,c6,c7,c8,c9,c10,c11,c12,c13,c14,c15,c16,c17⟩:=(Aa LU).one;try dsimp only at f0 c0 c1 c2 c3 c4 c5 c6 c7 c8 c9 c10 c11 c12 c13 c14 c15 c16 c17)|(go_at_call 128;refine(Aa HG _).mono ?_;rintro _ wv ⟨rfl,hbwv⟩;have LV:=Ab ((Aa LU).on hbwv);clear f0 c0 c1 c2 c3 c4 c5 c6 c7 c8 c9 c10 c11 c12 c13 c14 c15 c16 c17;obtain⟨f0,c0,c1,c2,c3,c4,c5,c6,c7,c8,c9,c10,c11,c12,c13,c14,c15,c16,c17⟩:=(Aa LV).one;try dsimp only at f0 c0 c1 c2 c3 c4 c5 c6 c7 c8 c9 c10 c11 c12 c13 c14 c15 c16 c17))
  all_goals
   clear hbwu hbwv LU f0 c0 c1 c2 c3 c4 c5 c6 c7 c8 c9 c10 c11 c12 c13 c14 c15 c16 c17
   have LX:Lie w (World.setCell (World.setCell (World.setCell (World.setCell (World.setCell wv ⟨w.heap.size,5,none⟩ (.int .i64 (orV d.g Dv).k)) ⟨w.heap.size,6,none⟩ (.bool (orV d.g Dv).b)) ⟨w.heap.size,7,none⟩ (.float .f64 (orV d.g Dv).x)) ⟨w.heap.size,8,none⟩ (.string (orV d.g Dv).s)) ⟨w.heap.size,9,none⟩ (.int .i64 (orV d.g Dv).i)) [.D {d with g:=orV d.g Dv}, .D Al]:=(Aa LV).putg (orV d.g Dv)
   replace LL:=Ab LX
   clear LV LX
   generalize (World.setCell (World.setCell (World.setCell (World.setCell (World.setCell wv ⟨w.heap.size,5,none⟩ (.int .i64 (orV d.g Dv).k)) ⟨w.heap.size,6,none⟩ (.bool (orV d.g Dv).b)) ⟨w.heap.size,7,none⟩ (.float .f64 (orV d.g Dv).x)) ⟨w.heap.size,8,none⟩ (.string (orV d.g Dv).s)) ⟨w.heap.size,9,none⟩ (.int .i64 (orV d.g Dv).i))=X at LL ⊢
  all_goals
   go_wp2_with fail
   obtain⟨f0,c0,c1,c2,c3,c4,c5,c6,c7,c8,c9,c10,c11,c12,c13,c14,c15,c16,c17⟩:=(Aa LL).one
   try dsimp only at f0 c0 c1 c2 c3 c4 c5 c6 c7 c8 c9 c10 c11 c12 c13 c14 c15 c16 c17
   go_region_with (first|(go_at_call 129;refine(Aa HU _).mono ?_;rintro _ wu ⟨rfl,hbwu⟩;have LU:=Ab ((Aa LL).drew.on hbwu);clear f0 c0 c1 c2 c3 c4 c5 c6 c7 c8 c9 c10 c11 c12 c13 c14 c15 c16 c17;obtain⟨f0,c0,c1,c2,c3,c4,c5,c6,c7,c8,c9,c10,c11,c12,c13,c14,c15,c16,c17⟩:=(Aa LU).one;try dsimp only at f0 c0 c1 c2 c3 c4 c5 c6 c7 c8 c9 c10 c11 c12 c13 c14 c15 c16 c17)|(go_at_call 128;refine(Aa HS _).mono ?_;rintro _ wv ⟨rfl,hbwv⟩;have LV:=Ab ((Aa LU).on hbwv);clear f0 c0 c1 c2 c3 c4 c5 c6 c7 c8 c9 c10 c11 c12 c13 c14 c15 c16 c17;obtain⟨f0,c0,c1,c2,c3,c4,c5,c6,c7,c8,c9,c10,c11,c12,c13,c14,c15,c16,c17⟩:=(Aa LV).one;try dsimp only at f0 c0 c1 c2 c3 c4 c5 c6 c7 c8 c9 c10 c11 c12 c13 c14 c15 c16 c17))
   all_goals
    clear hbwu hbwv LU f0 c0 c1 c2 c3 c4 c5 c6 c7 c8 c9 c10 c11 c12 c13 c14 c15 c16 c17
    have LX:Lie w (World.setCell (World.setCell (World.setCell (World.setCell (World.setCell wv ⟨w.heap.size,10,none⟩ (.int .i64 (orV d.s Dv).k)) ⟨w.heap.size,11,none⟩ (.bool (orV d.s Dv).b)) ⟨w.heap.size,12,none⟩ (.float .f64 (orV d.s Dv).x)) ⟨w.heap.size,13,none⟩ (.string (orV d.s Dv).s)) ⟨w.heap.size,14,none⟩ (.int .i64 (orV d.s Dv).i)) [.D {{d with g:=orV d.g Dv} with s:=orV d.s Dv}, .D Al]:=(Aa LV).puts (orV d.s Dv)
    replace LL:=Ab LX
    clear LV LX
    generalize (World.setCell (World.setCell (World.setCell (World.setCell (World.setCell wv ⟨w.heap.size,10,none⟩ (.int .i64 (orV d.s Dv).k)) ⟨w.heap.size,11,none⟩ (.bool (orV d.s Dv).b)) ⟨w.heap.size,12,none⟩ (.float .f64 (orV d.s Dv).x)) ⟨w.heap.size,13,none⟩ (.string (orV d.s Dv).s)) ⟨w.heap.size,14,none⟩ (.int .i64 (orV d.s Dv).i))=X at LL ⊢
   all_goals
    go_wp2_with (first|go_skip|((with_reducible apply Ap);(case ho=>rfl);(case hw=>rfl);(case hx=>rfl);(case hc=>first|exact(Aa LL).one);simp only[nn])|((with_reducible apply Au);(case ho=>rfl);(case hw=>rfl);(case hx=>rfl);(case hc=>first|exact(Aa LL).one);simp only[nn])|((with_reducible apply Aq);(case ho=>rfl);(case hw=>rfl);(case hx=>rfl);(case hc=>first|exact(Aa LL).one);simp only[nn])|((with_reducible apply Ak);(case ho=>rfl);(case hw=>rfl);(case hx=>rfl);(case hc=>first|exact(Aa LL).one);simp only[nn])|((with_reducible apply Zaf 0);(case ho=>rfl);(case hw=>rfl);(case hL=>exact Aa LL);(case hi=>rfl);(case hx=>rfl);(case hy=>rfl);(intro X LX;simp only[nn];replace LL:=Ab LX;clear LX))|((with_reducible apply Od 0);(case ho=>rfl);(case hw=>rfl);(case hL=>exact Aa LL);(case hi=>rfl);(case hx=>rfl);(case hy=>rfl);(intro X LX;simp only[nn];replace LL:=Ab LX;clear LX))|((with_reducible apply Oe 0);(case ho=>rfl);(case hw=>rfl);(case hL=>exact Aa LL);(case hi=>rfl);(case hx=>rfl);(case hy=>rfl);(intro X LX;simp only[nn];replace LL:=Ab LX;clear LX))|((with_reducible apply Da 1);(case ho=>rfl);(case hw=>rfl);(case hL=>exact Aa LL);(case hi=>rfl);(case hx=>rfl);(case hy=>rfl);(intro X LX;simp only[nn];replace LL:=Ab LX;clear LX))|(go_at_call 130;refine(Nz _ _ _).mono ?_;rintro _ _ ⟨rfl,rfl⟩))
    refine Zam rfl rfl rfl (Aa LL).two ?_
    exact⟨rfl,(Aa LL).below⟩
 ·have e3:(sh==3)=false:=by simp[h3]
  rw[e3]
  go_enter func111,ntmps111
  go_wp2_with (first|go_skip|((with_reducible apply Ap);(case ho=>rfl);(case hw=>rfl);(case hx=>rfl);(case hc=>first|exact(Aa LL).one|exact(Aa LL).two);simp only[nn])|(go_at_call 119;refine(Ae _ _).mono ?_;rintro _ _ ⟨rfl,rfl⟩)|(go_at_call 118;refine(Ac _ _).mono ?_;rintro _ _ ⟨rfl,rfl⟩))
  refine(Aa HB _).mono ?_
  rintro _ w2 ⟨rfl,hb⟩
  replace LL:=Ab ((Aa LL).on hb)
  clear hb
  go_wp2_with fail
  obtain⟨f0,c0,c1,c2,c3,c4,c5,c6,c7,c8,c9,c10,c11,c12,c13,c14,c15,c16,c17⟩:=(Aa LL).one
  try dsimp only at f0 c0 c1 c2 c3 c4 c5 c6 c7 c8 c9 c10 c11 c12 c13 c14 c15 c16 c17
  go_region_with (first|(go_at_call 129;refine(Aa HU _).mono ?_;rintro _ wu ⟨rfl,hbwu⟩;have LU:=Ab ((Aa LL).drew.on hbwu);clear f0 c0 c1 c2 c3 c4 c5 c6 c7 c8 c9 c10 c11 c12 c13 c14 c15 c16 c17;obtain⟨f0,c0,c1,c2,c3,c4,c5,c6,c7,c8,c9,c10,c11,c12,c13,c14,c15,c16,c17⟩:=(Aa LU).one;try dsimp only at f0 c0 c1 c2 c3 c4 c5 c6 c7 c8 c9 c10 c11 c12 c13 c14 c15 c16 c17)|(go_at_call 128;refine(Aa HV _).mono ?_;rintro _ wv ⟨rfl,hbwv⟩;have LV:=Ab ((Aa LU).on hbwv);clear f0 c0 c1 c2 c3 c4 c5 c6 c7 c8 c9 c10 c11 c12 c13 c14 c15 c16 c17;obtain⟨f0,c0,c1,c2,c3,c4,c5,c6,c7,c8,c9,c10,c11,c12,c13,c14,c15,c16,c17⟩:=(Aa LV).one;try dsimp only at f0 c0 c1 c2 c3 c4 c5 c6 c7 c8 c9 c10 c11 c12 c13 c14 c15 c16 c17))
  all_goals
   clear hbwu hbwv LU f0 c0 c1 c2 c3 c4 c5 c6 c7 c8 c9 c10 c11 c12 c13 c14 c15 c16 c17
   have LX:Lie w (World.setCell (World.setCell (World.setCell (World.setCell (World.setCell wv ⟨w.heap.size,0,none⟩ (.int .i64 (orV d.v Dv).k)) ⟨w.heap.size,1,none⟩ (.bool (orV d.v Dv).b)) ⟨w.heap.size,2,none⟩ (.float .f64 (orV d.v Dv).x)) ⟨w.heap.size,3,none⟩ (.string (orV d.v Dv).s)) ⟨w.heap.size,4,none⟩ (.int .i64 (orV d.v Dv).i)) [.D {d with v:=orV d.v Dv}, .D Al]:=(Aa LV).putv (orV d.v Dv)
   replace LL:=Ab LX
   clear LV LX
   generalize (World.setCell (World.setCell (World.setCell (World.setCell (World.setCell wv ⟨w.heap.size,0,none⟩ (.int .i64 (orV d.v Dv).k)) ⟨w.heap.size,1,none⟩ (.bool (orV d.v Dv).b)) ⟨w.heap.size,2,none⟩ (.float .f64 (orV d.v Dv).x)) ⟨w.heap.size,3,none⟩ (.string (orV d.v Dv).s)) ⟨w.heap.size,4,none⟩ (.int .i64 (orV d.v Dv).i))=X at LL ⊢
  all_goals
   go_wp2_with (first|go_skip|((with_reducible apply Ap);(case ho=>rfl);(case hw=>rfl);(case hx=>rfl);(case hc=>first|exact(Aa LL).one);simp only[nn])|((with_reducible apply Au);(case ho=>rfl);(case hw=>rfl);(case hx=>rfl);(case hc=>first|exact(Aa LL).one);simp only[nn])|((with_reducible apply Aq);(case ho=>rfl);(case hw=>rfl);(case hx=>rfl);(case hc=>first|exact(Aa LL).one);simp only[nn])|((with_reducible apply Ak);(case ho=>rfl);(case hw=>rfl);(case hx=>rfl);(case hc=>first|exact(Aa LL).one);simp only[nn])|((with_reducible apply Zaf 0);(case ho=>rfl);(case hw=>rfl);(case hL=>exact Aa LL);(case hi=>rfl);(case hx=>rfl);(case hy=>rfl);(intro X LX;simp only[nn];replace LL:=Ab LX;clear LX))|((with_reducible apply Od 0);(case ho=>rfl);(case hw=>rfl);(case hL=>exact Aa LL);(case hi=>rfl);(case hx=>rfl);(case hy=>rfl);(intro X LX;simp only[nn];replace LL:=Ab LX;clear LX))|((with_reducible apply Oe 0);(case ho=>rfl);(case hw=>rfl);(case hL=>exact Aa LL);(case hi=>rfl);(case hx=>rfl);(case hy=>rfl);(intro X LX;simp only[nn];replace LL:=Ab LX;clear LX))|((with_reducible apply Da 1);(case ho=>rfl);(case hw=>rfl);(case hL=>exact Aa LL);(case hi=>rfl);(case hx=>rfl);(case hy=>rfl);(intro X LX;simp only[nn];replace LL:=Ab LX;clear LX))|(go_at_call 130;refine(Nz _ _ _).mono ?_;rintro _ _ ⟨rfl,rfl⟩))
   refine Zam rfl rfl rfl (Aa LL).two ?_
   exact⟨rfl,(Aa LL).below⟩
