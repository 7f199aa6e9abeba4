import Derived.Test.YtfnohipnenkhoaaGreatDoorQj
set_option linter.all false
namespace Go.Proofs.YtfnohipnenkhoaaGreatDoor
set_option maxRecDepth 100000
set_option maxHeartbeats 0
section
open Go Go.Proofs Go.RowKit FM Tryz
def orT (t a:Int):Int:=if t !=0 then t else a
def Kz (d:DD):DD:=if Di d==3 then ⟨d.v,orV d.g Dr,orV d.s Dr,d.w,orT d.e 1,orT d.c 1⟩ else ⟨orV d.v Dr,d.g,d.s,orT d.w 1,orT d.e 1,orT d.c 1⟩
theorem ZaE (d:DD) (hs:d.v.s.size<=1048576) (w:World):Calls prog 96 #[d.agg] w fun e w'=>e= .returned d.agg/\Below w.heap.size w w':=by
 have HC:=Ab (fun w=>Za4 d.v.s w hs)
 have LL:=Ab (Lie.new2 w (.D d) (.D Ak))
 have hq0:=Jc d
 rw[hq0]
 clear hq0
 go_enter func96,ntmps96
 go_wp2_with (go_skip)
 refine(Aa HC _).mono ?_
 rintro _ w1 ⟨rfl,hb⟩
 replace LL:=Ab ((Aa LL).on hb)
 clear hb
 go_wp2_with (first|go_skip|((with_reducible apply Dg);(case ho=>rfl);(case hw=>rfl);(case hx=>rfl);(case hc=>first|exact(Aa LL).one|exact(Aa LL).two);simp only[nn])|((with_reducible apply Ks 1);(case ho=>rfl);(case hL=>exact Aa LL);(case hi=>rfl);(case hx=>rfl);(case hw=>rfl);(case hy=>rfl);(intro X LX;simp only[nn];replace LL:=Ab LX;clear LX))|((with_reducible apply store9 0);(case ho=>rfl);(case hL=>exact Aa LL);(case hi=>rfl);(case hx=>rfl);(case hw=>rfl);(case hy=>rfl);(intro X LX;simp only[nn];replace LL:=Ab LX;clear LX)))
 refine Zch rfl rfl rfl (Aa LL).two ?_
 exact⟨rfl,(Aa LL).below⟩
theorem Zb (t a:Int) (w:World):Calls prog 114 #[.int .i64 t, .int .i64 a] w fun e w'=>e= .returned (.int .i64 (orT t a))/\w'=w:=ZeA t a w
theorem Lie.putv {w W:World} {d:DD} {l:List PB} (h:Lie w W (.D d::l)) (u:VV):Lie w (W.setCells w.heap.size 0 u.cs) (.D {d with v:=u}::l):=
 Lie.put (i:=0) (o:=0) (vs:=u.cs) (p:= .D {d with v:=u}) (q:= .D d) h rfl (fun hq=>Lies.setv hq)
theorem Lie.putg {w W:World} {d:DD} {l:List PB} (h:Lie w W (.D d::l)) (u:VV):Lie w (W.setCells w.heap.size 5 u.cs) (.D {d with g:=u}::l):=
 Lie.put (i:=0) (o:=5) (vs:=u.cs) (p:= .D {d with g:=u}) (q:= .D d) h rfl (fun hq=>Lies.setg hq)
theorem Lie.puts {w W:World} {d:DD} {l:List PB} (h:Lie w W (.D d::l)) (u:VV):Lie w (W.setCells w.heap.size 10 u.cs) (.D {d with s:=u}::l):=
 Lie.put (i:=0) (o:=10) (vs:=u.cs) (p:= .D {d with s:=u}) (q:= .D d) h rfl (fun hq=>Lies.sets hq)
attribute [local go_sem] Ei
theorem Zap (d:DD) (hd:FD d) (w:World):Calls prog 97 #[d.agg] w fun e w'=>e= .returned (Kz d).agg/\Below w.heap.size w w':=by
 have HB:=Ab (Df d hd)
 have HU:=Ab (Gp)
 have HV:=Ab (Km d.v Dr hd.1)
 have HG:=Ab (Km d.g Dr hd.2.1)
 have HS:=Ab (Km d.s Dr hd.2.2)
 clear hd
 have LL:=Ab (Lie.new2 w (.D d) (.D Ak))
 unfold Kz
 generalize Di d=sh at *
 unfold VV.agg at HU HV HG HS
 dsimp only at HU
 have hq0:=Jc d
 rw[hq0]
 clear hq0
 by_cases h3:sh=3
 ·subst h3
  go_enter func97,ntmps97
  go_wp2_with (first|go_skip|((with_reducible apply Dg);(case ho=>rfl);(case hw=>rfl);(case hx=>rfl);(case hc=>first|exact(Aa LL).one|exact(Aa LL).two);simp only[nn]))
  refine(Aa HB _).mono ?_
  rintro _ w1 ⟨rfl,hb⟩
  replace LL:=Ab ((Aa LL).on hb)
  clear hb
  go_wp2_with fail
  obtain⟨f0,c0,c1,c2,c3,c4,c5,c6,c7,c8,c9,c10,c11,c12,c13,c14,c15,c16,c17⟩:=(Aa LL).one
  try dsimp only at f0 c0 c1 c2 c3 c4 c5 c6 c7 c8 c9 c10 c11 c12 c13 c14 c15 c16 c17
  go_region_with (first|(go_at_call 113;refine(Aa HU _).mono ?_;rintro _ wu ⟨rfl,hbwu⟩;have LU:=Ab ((Aa LL).drew.on hbwu);clear f0 c0 c1 c2 c3 c4 c5 c6 c7 c8 c9 c10 c11 c12 c13 c14 c15 c16 c17;obtain⟨f0,c0,c1,c2,c3,c4,c5,c6,c7,c8,c9,c10,c11,c12,c13,c14,c15,c16,c17⟩:=(Aa LU).one;try dsimp only at f0 c0 c1 c2 c3 c4 c5 c6 c7 c8 c9 c10 c11 c12 c13 c14 c15 c16 c17)|(go_at_call 112;refine(Aa HG _).mono ?_;rintro _ wv ⟨rfl,hbwv⟩;have LV:=Ab ((Aa LU).on hbwv);clear f0 c0 c1 c2 c3 c4 c5 c6 c7 c8 c9 c10 c11 c12 c13 c14 c15 c16 c17;obtain⟨f0,c0,c1,c2,c3,c4,c5,c6,c7,c8,c9,c10,c11,c12,c13,c14,c15,c16,c17⟩:=(Aa LV).one;try dsimp only at f0 c0 c1 c2 c3 c4 c5 c6 c7 c8 c9 c10 c11 c12 c13 c14 c15 c16 c17))
  all_goals
   clear hbwu hbwv LU f0 c0 c1 c2 c3 c4 c5 c6 c7 c8 c9 c10 c11 c12 c13 c14 c15 c16 c17
   have LX:Lie w (World.setCell (World.setCell (World.setCell (World.setCell (World.setCell wv ⟨w.heap.size,5,none⟩ (.int .i64 (orV d.g Dr).k)) ⟨w.heap.size,6,none⟩ (.bool (orV d.g Dr).b)) ⟨w.heap.size,7,none⟩ (.float .f64 (orV d.g Dr).x)) ⟨w.heap.size,8,none⟩ (.string (orV d.g Dr).s)) ⟨w.heap.size,9,none⟩ (.int .i64 (orV d.g Dr).i)) [.D {d with g:=orV d.g Dr}, .D Ak]:=(Aa LV).putg (orV d.g Dr)
   replace LL:=Ab LX
   clear LV LX
   generalize (World.setCell (World.setCell (World.setCell (World.setCell (World.setCell wv ⟨w.heap.size,5,none⟩ (.int .i64 (orV d.g Dr).k)) ⟨w.heap.size,6,none⟩ (.bool (orV d.g Dr).b)) ⟨w.heap.size,7,none⟩ (.float .f64 (orV d.g Dr).x)) ⟨w.heap.size,8,none⟩ (.string (orV d.g Dr).s)) ⟨w.heap.size,9,none⟩ (.int .i64 (orV d.g Dr).i))=X at LL ⊢
  all_goals
   go_wp2_with fail
   obtain⟨f0,c0,c1,c2,c3,c4,c5,c6,c7,c8,c9,c10,c11,c12,c13,c14,c15,c16,c17⟩:=(Aa LL).one
   try dsimp only at f0 c0 c1 c2 c3 c4 c5 c6 c7 c8 c9 c10 c11 c12 c13 c14 c15 c16 c17
   go_region_with (first|(go_at_call 113;refine(Aa HU _).mono ?_;rintro _ wu ⟨rfl,hbwu⟩;have LU:=Ab ((Aa LL).drew.on hbwu);clear f0 c0 c1 c2 c3 c4 c5 c6 c7 c8 c9 c10 c11 c12 c13 c14 c15 c16 c17;obtain⟨f0,c0,c1,c2,c3,c4,c5,c6,c7,c8,c9,c10,c11,c12,c13,c14,c15,c16,c17⟩:=(Aa LU).one;try dsimp only at f0 c0 c1 c2 c3 c4 c5 c6 c7 c8 c9 c10 c11 c12 c13 c14 c15 c16 c17)|(go_at_call 112;refine(Aa HS _).mono ?_;rintro _ wv ⟨rfl,hbwv⟩;have LV:=Ab ((Aa LU).on hbwv);clear f0 c0 c1 c2 c3 c4 c5 c6 c7 c8 c9 c10 c11 c12 c13 c14 c15 c16 c17;obtain⟨f0,c0,c1,c2,c3,c4,c5,c6,c7,c8,c9,c10,c11,c12,c13,c14,c15,c16,c17⟩:=(Aa LV).one;try dsimp only at f0 c0 c1 c2 c3 c4 c5 c6 c7 c8 c9 c10 c11 c12 c13 c14 c15 c16 c17))
   all_goals
    clear hbwu hbwv LU f0 c0 c1 c2 c3 c4 c5 c6 c7 c8 c9 c10 c11 c12 c13 c14 c15 c16 c17
    have LX:Lie w (World.setCell (World.setCell (World.setCell (World.setCell (World.setCell wv ⟨w.heap.size,10,none⟩ (.int .i64 (orV d.s Dr).k)) ⟨w.heap.size,11,none⟩ (.bool (orV d.s Dr).b)) ⟨w.heap.size,12,none⟩ (.float .f64 (orV d.s Dr).x)) ⟨w.heap.size,13,none⟩ (.string (orV d.s Dr).s)) ⟨w.heap.size,14,none⟩ (.int .i64 (orV d.s Dr).i)) [.D {{d with g:=orV d.g Dr} with s:=orV d.s Dr}, .D Ak]:=(Aa LV).puts (orV d.s Dr)
    replace LL:=Ab LX
    clear LV LX
    generalize (World.setCell (World.setCell (World.setCell (World.setCell (World.setCell wv ⟨w.heap.size,10,none⟩ (.int .i64 (orV d.s Dr).k)) ⟨w.heap.size,11,none⟩ (.bool (orV d.s Dr).b)) ⟨w.heap.size,12,none⟩ (.float .f64 (orV d.s Dr).x)) ⟨w.heap.size,13,none⟩ (.string (orV d.s Dr).s)) ⟨w.heap.size,14,none⟩ (.int .i64 (orV d.s Dr).i))=X at LL ⊢
   all_goals
    go_wp2_with (first|go_skip|((with_reducible apply Dg);(case ho=>rfl);(case hw=>rfl);(case hx=>rfl);(case hc=>first|exact(Aa LL).one);simp only[nn])|((with_reducible apply Ep);(case ho=>rfl);(case hw=>rfl);(case hx=>rfl);(case hc=>first|exact(Aa LL).one);simp only[nn])|((with_reducible apply Ex);(case ho=>rfl);(case hw=>rfl);(case hx=>rfl);(case hc=>first|exact(Aa LL).one);simp only[nn])|((with_reducible apply Zm 0);(case ho=>rfl);(case hw=>rfl);(case hL=>exact Aa LL);(case hi=>rfl);(case hx=>rfl);(case hy=>rfl);(intro X LX;simp only[nn];replace LL:=Ab LX;clear LX))|((with_reducible apply Zn 0);(case ho=>rfl);(case hw=>rfl);(case hL=>exact Aa LL);(case hi=>rfl);(case hx=>rfl);(case hy=>rfl);(intro X LX;simp only[nn];replace LL:=Ab LX;clear LX))|((with_reducible apply Ks 1);(case ho=>rfl);(case hw=>rfl);(case hL=>exact Aa LL);(case hi=>rfl);(case hx=>rfl);(case hy=>rfl);(intro X LX;simp only[nn];replace LL:=Ab LX;clear LX))|(go_at_call 114;refine(Zb _ _ _).mono ?_;rintro _ _ ⟨rfl,rfl⟩))
    refine Zch rfl rfl rfl (Aa LL).two ?_
    exact⟨rfl,(Aa LL).below⟩
 ·have e3:(sh==3)=false:=by simp[h3]
  rw[e3]
  go_enter func97,ntmps97
  go_wp2_with (first|go_skip|((with_reducible apply Dg);(case ho=>rfl);(case hw=>rfl);(case hx=>rfl);(case hc=>first|exact(Aa LL).one|exact(Aa LL).two);simp only[nn]))
  refine(Aa HB _).mono ?_
  rintro _ w2 ⟨rfl,hb⟩
  replace LL:=Ab ((Aa LL).on hb)
  clear hb
  go_wp2_with fail
  obtain⟨f0,c0,c1,c2,c3,c4,c5,c6,c7,c8,c9,c10,c11,c12,c13,c14,c15,c16,c17⟩:=(Aa LL).one
  try dsimp only at f0 c0 c1 c2 c3 c4 c5 c6 c7 c8 c9 c10 c11 c12 c13 c14 c15 c16 c17
  go_region_with (first|(go_at_call 113;refine(Aa HU _).mono ?_;rintro _ wu ⟨rfl,hbwu⟩;have LU:=Ab ((Aa LL).drew.on hbwu);clear f0 c0 c1 c2 c3 c4 c5 c6 c7 c8 c9 c10 c11 c12 c13 c14 c15 c16 c17;obtain⟨f0,c0,c1,c2,c3,c4,c5,c6,c7,c8,c9,c10,c11,c12,c13,c14,c15,c16,c17⟩:=(Aa LU).one;try dsimp only at f0 c0 c1 c2 c3 c4 c5 c6 c7 c8 c9 c10 c11 c12 c13 c14 c15 c16 c17)|(go_at_call 112;refine(Aa HV _).mono ?_;rintro _ wv ⟨rfl,hbwv⟩;have LV:=Ab ((Aa LU).on hbwv);clear f0 c0 c1 c2 c3 c4 c5 c6 c7 c8 c9 c10 c11 c12 c13 c14 c15 c16 c17;obtain⟨f0,c0,c1,c2,c3,c4,c5,c6,c7,c8,c9,c10,c11,c12,c13,c14,c15,c16,c17⟩:=(Aa LV).one;try dsimp only at f0 c0 c1 c2 c3 c4 c5 c6 c7 c8 c9 c10 c11 c12 c13 c14 c15 c16 c17))
  all_goals
   clear hbwu hbwv LU f0 c0 c1 c2 c3 c4 c5 c6 c7 c8 c9 c10 c11 c12 c13 c14 c15 c16 c17
   have LX:Lie w (World.setCell (World.setCell (World.setCell (World.setCell (World.setCell wv ⟨w.heap.size,0,none⟩ (.int .i64 (orV d.v Dr).k)) ⟨w.heap.size,1,none⟩ (.bool (orV d.v Dr).b)) ⟨w.heap.size,2,none⟩ (.float .f64 (orV d.v Dr).x)) ⟨w.heap.size,3,none⟩ (.string (orV d.v Dr).s)) ⟨w.heap.size,4,none⟩ (.int .i64 (orV d.v Dr).i)) [.D {d with v:=orV d.v Dr}, .D Ak]:=(Aa LV).putv (orV d.v Dr)
   replace LL:=Ab LX
   clear LV LX
   generalize (World.setCell (World.setCell (World.setCell (World.setCell (World.setCell wv ⟨w.heap.size,0,none⟩ (.int .i64 (orV d.v Dr).k)) ⟨w.heap.size,1,none⟩ (.bool (orV d.v Dr).b)) ⟨w.heap.size,2,none⟩ (.float .f64 (orV d.v Dr).x)) ⟨w.heap.size,3,none⟩ (.string (orV d.v Dr).s)) ⟨w.heap.size,4,none⟩ (.int .i64 (orV d.v Dr).i))=X at LL ⊢
  all_goals
   go_wp2_with (first|go_skip|((with_reducible apply Dg);(case ho=>rfl);(case hw=>rfl);(case hx=>rfl);(case hc=>first|exact(Aa LL).one);simp only[nn])|((with_reducible apply Kv);(case ho=>rfl);(case hw=>rfl);(case hx=>rfl);(case hc=>first|exact(Aa LL).one);simp only[nn])|((with_reducible apply Ep);(case ho=>rfl);(case hw=>rfl);(case hx=>rfl);(case hc=>first|exact(Aa LL).one);simp only[nn])|((with_reducible apply Ex);(case ho=>rfl);(case hw=>rfl);(case hx=>rfl);(case hc=>first|exact(Aa LL).one);simp only[nn])|((with_reducible apply store25w 0);(case ho=>rfl);(case hw=>rfl);(case hL=>exact Aa LL);(case hi=>rfl);(case hx=>rfl);(case hy=>rfl);(intro X LX;simp only[nn];replace LL:=Ab LX;clear LX))|((with_reducible apply Zm 0);(case ho=>rfl);(case hw=>rfl);(case hL=>exact Aa LL);(case hi=>rfl);(case hx=>rfl);(case hy=>rfl);(intro X LX;simp only[nn];replace LL:=Ab LX;clear LX))|((with_reducible apply Zn 0);(case ho=>rfl);(case hw=>rfl);(case hL=>exact Aa LL);(case hi=>rfl);(case hx=>rfl);(case hy=>rfl);(intro X LX;simp only[nn];replace LL:=Ab LX;clear LX))|((with_reducible apply Ks 1);(case ho=>rfl);(case hw=>rfl);(case hL=>exact Aa LL);(case hi=>rfl);(case hx=>rfl);(case hy=>rfl);(intro X LX;simp only[nn];replace LL:=Ab LX;clear LX))|(go_at_call 114;refine(Zb _ _ _).mono ?_;rintro _ _ ⟨rfl,rfl⟩))
   refine Zch rfl rfl rfl (Aa LL).two ?_
   exact⟨rfl,(Aa LL).below⟩
end
section
open Go Go.Proofs Go.RowKit FM
theorem good_str {v:VV} (h:v.good=true):v.s.size<=1048576:=by
 have e0:ByteArray.empty.size<=1048576:=by decide
 obtain⟨k,b,x,s,i⟩:=v
 rcases Gt h with ⟨_,_,_,rfl,_⟩|⟨_,_,_,rfl,_⟩|⟨_,_,rfl,_⟩|⟨_,_,rfl,_⟩|⟨_,_,_,_,hf⟩|⟨_,_,_,rfl,_⟩|⟨_,_,_,rfl,_⟩
 ·exact e0
 ·exact e0
 ·exact e0
 ·exact e0
 ·unfold Zan at hf
  simp at hf
  exact hf.1
 ·exact e0
 ·exact e0
theorem Zct {v:VV} (h:thV v=false):v.s.size<=1048576:=by
 unfold thV at h
 simp only[Bool.not_eq_false',Bool.and_eq_true] at h
 rw[Vc h.1.2]
 decide
theorem Vn {d:DD} (h:Kf d=true):d.v.s.size<=1048576:=by
 unfold Kf at h
 simp only[Bool.and_eq_true,Bool.or_eq_true,Bool.not_eq_true'] at h
 rcases h.1.1.1.1.1 with h|h
 ·exact Zct h
 ·exact good_str h
theorem Rl {d:DD} (h: ¬Jm d=0):Kf d=true:=by
 unfold Jm at h
 cases hs:Kf d
 ·rw[hs] at h
  exact absurd rfl h
 ·rfl
theorem or_str {v:VV} (h:v.s.size<=1048576):(orV v Dr).s.size<=1048576:=by
 unfold orV
 cases thV v
 ·show Dr.s.size<=1048576
  decide
 ·exact h
theorem ZcJ {d:DD} (h:d.v.s.size<=1048576):(Kz d).v.s.size<=1048576:=by
 unfold Kz
 cases Di d==3
 ·exact or_str h
 ·exact h
def eqD (a b:DD):Bool:=eqB a.v b.v && eqB a.g b.g && eqB a.s b.s && a.w==b.w && a.e==b.e && a.c==b.c
theorem ZbW (a b:DD) (w:World):Calls Tryz.prog 16 #[a.agg,b.agg] w fun e w'=>e= .returned (.bool (eqD a b))/\Below w.heap.size w w':=by
 have HV:=Ab (Qe a.v b.v)
 have HG:=Ab (Qe a.g b.g)
 have HS:=Ab (Qe a.s b.s)
 have LL:=Ab (Lie.new2 w (.D a) (.D b))
 unfold eqD
 generalize eqB a.v b.v=ev at *
 generalize eqB a.g b.g=eg at *
 generalize eqB a.s b.s=es at *
 generalize hqw:(a.w==b.w)=qw at *
 generalize hqe:(a.e==b.e)=qe at *
 generalize hqc:(a.c==b.c)=qc at *
 have hq0:=Jc a
 have hq1:=Jc b
 rw[hq0,hq1]
 clear hq0 hq1
 go_enter Tryz.func16,Tryz.ntmps16
 go_wp2_with (first|go_skip|((with_reducible apply Ze);(case ho=>rfl);(case hw=>rfl);(case hx=>rfl);(case hc=>first|exact(Aa LL).one|exact(Aa LL).two);simp only[nn]))
 refine(Aa HV _).mono ?_
 rintro _ w11 ⟨rfl,hb⟩
 replace LL:=Ab ((Aa LL).on hb)
 clear hb
 cases ev
 ·go_wp2_with (go_skip)
  go_ret
  exact⟨rfl,(Aa LL).below⟩
 ·go_wp2_with (first|go_skip|((with_reducible apply Zg);(case ho=>rfl);(case hw=>rfl);(case hx=>rfl);(case hc=>first|exact(Aa LL).one|exact(Aa LL).two);simp only[nn]))
  refine(Aa HG _).mono ?_
  rintro _ w12 ⟨rfl,hb⟩
  replace LL:=Ab ((Aa LL).on hb)
  clear hb
  cases eg
  ·go_wp2_with (go_skip)
   go_ret
   exact⟨rfl,(Aa LL).below⟩
  ·go_wp2_with (first|go_skip|((with_reducible apply Zf);(case ho=>rfl);(case hw=>rfl);(case hx=>rfl);(case hc=>first|exact(Aa LL).one|exact(Aa LL).two);simp only[nn]))
   refine(Aa HS _).mono ?_
   rintro _ w13 ⟨rfl,hb⟩
   replace LL:=Ab ((Aa LL).on hb)
   clear hb
   cases es
   ·go_wp2_with (go_skip)
    go_ret
    exact⟨rfl,(Aa LL).below⟩
   ·cases qw
    ·go_wp2_with (first|go_skip|((with_reducible apply Kv);(case ho=>rfl);(case hw=>rfl);(case hx=>rfl);(case hc=>first|exact(Aa LL).one|exact(Aa LL).two);simp only[nn]))
     go_ret
     exact⟨rfl,(Aa LL).below⟩
    ·cases qe
     ·go_wp2_with (first|go_skip|((with_reducible apply Kv);(case ho=>rfl);(case hw=>rfl);(case hx=>rfl);(case hc=>first|exact(Aa LL).one|exact(Aa LL).two);simp only[nn])|((with_reducible apply Ep);(case ho=>rfl);(case hw=>rfl);(case hx=>rfl);(case hc=>first|exact(Aa LL).one|exact(Aa LL).two);simp only[nn]))
      go_ret
      exact⟨rfl,(Aa LL).below⟩
     ·go_wp2_with (first|go_skip|((with_reducible apply Kv);(case ho=>rfl);(case hw=>rfl);(case hx=>rfl);(case hc=>first|exact(Aa LL).one|exact(Aa LL).two);simp only[nn])|((with_reducible apply Ep);(case ho=>rfl);(case hw=>rfl);(case hx=>rfl);(case hc=>first|exact(Aa LL).one|exact(Aa LL).two);simp only[nn])|((with_reducible apply Ex);(case ho=>rfl);(case hw=>rfl);(case hx=>rfl);(case hc=>first|exact(Aa LL).one|exact(Aa LL).two);simp only[nn]))
      go_ret
      exact⟨rfl,(Aa LL).below⟩
end
section
open Go Go.Proofs Go.RowKit FM Tryz
structure Kp (w X:World) (l:List (Nat×PB)):Prop where
 below:Below w.heap.size w X
 all: ∀q∈l,w.heap.size<=q.1/\q.1<X.heap.size/\q.2.lies X q.1
 nd:(l.map (·.1)).Nodup
theorem Kp.of2 {w X:World} {p p2:PB} (h:Lie w X [p,p2]):Kp w X [(w.heap.size,p),(w.heap.size+1,p2)]:=
 ⟨h.below,fun q hq=>by
  have hs:=h.size
  simp at hs hq
  rcases hq with rfl|rfl
  ·exact⟨Nat.le_refl _,by show w.heap.size<X.heap.size;omega,h.holds.1⟩
  ·exact⟨Nat.le_succ _,by show w.heap.size+1<X.heap.size;omega,h.holds.2.1⟩,by simp⟩
theorem Kp.on {w X X1:World} {l:List (Nat×PB)} (h:Kp w X l) (hb:Below X.heap.size X X1):Kp w X1 l:=
 ⟨h.below.trans (hb.mono h.below.size),fun q hq=>⟨(h.all q hq).1,Nat.lt_of_lt_of_le (h.all q hq).2.1 hb.size,PB.on (h.all q hq).2.2 (h.all q hq).2.1 hb⟩,h.nd⟩
theorem Kp.drew {w X:World} {l:List (Nat×PB)} (h:Kp w X l):Kp w X.drew l:=⟨h.below.drew,fun q hq=>⟨(h.all q hq).1,(h.all q hq).2.1,PB.drew (h.all q hq).2.2⟩,h.nd⟩
theorem Kp.get {w X:World} {l:List (Nat×PB)} (h:Kp w X l) (i:Nat) {b:Nat} {p:PB} (hi:l[i]? =some (b,p)):p.lies X b:=(h.all _ (List.mem_of_getElem? hi)).2.2
theorem Kp.put {w X:World} {l:List (Nat×PB)} (h:Kp w X l) (i:Nat) {b:Nat} {d u:DD} (hi:l[i]? =some (b, .D d)):Kp w (X.setCells b 0 u.cs) (l.set i (b, .D u)):=by
 have hb:=h.all _ (List.mem_of_getElem? hi)
 have hlt:=(List.getElem?_eq_some_iff.1 hi).1
 refine⟨Mj (W:=X) hb.1 _ _ _ h.below,fun q hq=> ?_, ?_⟩
 ·rw[Mp]
  obtain⟨j,hj,rfl⟩:=List.mem_iff_getElem.1 hq
  by_cases hij:i=j
  ·subst hij
   rw[List.getElem_set_self]
   exact⟨hb.1,hb.2.1,Lies.setD hb.2.2⟩
  ·rw[List.getElem_set_ne hij]
   have hj':j<l.length:=by simpa using hj
   have ha:=h.all _ (List.getElem_mem hj')
   refine⟨ha.1,ha.2.1,PB.far ha.2.2 ?_⟩
   intro e
   have hn:=List.pairwise_iff_getElem.1 h.nd
   have hie:l[i].1=b:=by
    have:=(List.getElem?_eq_some_iff.1 hi).2
    rw[this]
   rcases Nat.lt_or_gt_of_ne hij with hlt2|hlt2
   ·exact hn i j (by simpa using hlt) (by simpa using hj') hlt2 (by simp[hie,e])
   ·exact hn j i (by simpa using hj') (by simpa using hlt) hlt2 (by simp[hie,e])
 ·rw[List.map_set]
  have:(l.map (·.1)).set i b=l.map (·.1):=by
   refine List.ext_getElem? fun j=> ?_
   by_cases hij:i=j
   ·subst hij
    have:=(List.getElem?_eq_some_iff.1 hi).2
    simp[hlt,this]
   ·rw[List.getElem?_set_ne hij]
  rw[this]
  exact h.nd

section
variable {md : Region.Mode} {ops : Array Oper} {Q : Exit → Act → World → Prop} {w0 w : World} {l : List (Nat × PB)} {fuel : Nat} {listed : Array Bool} {a : Act} {o : Oper}
theorem hload27 (i j:Nat) (dst:Option Tmp) {x:Operand} {b:Nat} {d:DD} (hi:ops[i]? =some o) (hs:Region.noSelect ops=true) (hf:Region.free md ops listed i=true) (hr:(Region.ready md ops listed).contains i=true)
  (hQ: ∀c a w,Q (.panic c) (a.put dst d.agg) w->Q (.panic c) a w) (hd:o.dst=dst) (hw:Region.wanted o (yielded ops a.tmps)=true) (ho:o.op= .load 39 x) (hx:a.eval x= .pointer (some ⟨b,0,none⟩)) (hl:l[j]? =some (b, .D d))
  (hS:Kp w0 w l) (h:wpAnyH prog md ops Q (fun X=>Kp w0 X l) fuel (listed.setIfInBounds i true) (a.put dst d.agg) w):wpAnyH prog md ops Q (fun X=>Kp w0 X l) (fuel+1) listed a w:=by
 subst hd
 obtain⟨t,hu,hd⟩:=Zi
 exact wpAnyH_take hi hs hf hr hQ (yieldsIf_load_mid hw 39 x ho b 0 hx d.cs t (fun X hX=>Lies.range (hX.get j hl)) hu hd Vr) hS h
theorem hpure (i:Nat) (dst:Option Tmp) (v:Value) (hi:ops[i]? =some o) (hs:Region.noSelect ops=true) (hf:Region.free md ops listed i=true) (hr:(Region.ready md ops listed).contains i=true)
  (hQ: ∀c a w,Q (.panic c) (a.put dst v) w->Q (.panic c) a w) (hd:o.dst=dst) (hw:Region.wanted o (yielded ops a.tmps)=true) (hy: ∀w,(execOp a.eval o).run prog w= .ok (.value v) w)
  (hS:Kp w0 w l) (h:wpAnyH prog md ops Q (fun X=>Kp w0 X l) fuel (listed.setIfInBounds i true) (a.put dst v) w):wpAnyH prog md ops Q (fun X=>Kp w0 X l) (fuel+1) listed a w:=by
 subst hd
 exact wpAnyH_take hi hs hf hr hQ (Or.inl ⟨hw,fun X _=>hy X⟩) hS h
theorem ZcC (i:Nat) (dst:Option Tmp) (hi:ops[i]? =some o) (hs:Region.noSelect ops=true) (hf:Region.free md ops listed i=true) (hr:(Region.ready md ops listed).contains i=true)
  (hQ: ∀c a w,Q (.panic c) (a.put dst undef) w->Q (.panic c) a w) (hd:o.dst=dst) (hw:Region.wanted o (yielded ops a.tmps)=false)
  (hS:Kp w0 w l) (h:wpAnyH prog md ops Q (fun X=>Kp w0 X l) fuel (listed.setIfInBounds i true) (a.put dst undef) w):wpAnyH prog md ops Q (fun X=>Kp w0 X l) (fuel+1) listed a w:=by
 subst hd
 exact wpAnyH_take hi hs hf hr hQ (Or.inr ⟨hw,rfl⟩) hS h
theorem hcall (i:Nat) (dst:Option Tmp) {f:FuncId} {args:Array Value} {V:Value} (hi:ops[i]? =some o) (hr:Region.ready md ops listed= [i]) (hd:o.dst=dst) (hw:Region.wanted o (yielded ops a.tmps)=true)
  (he:(execOp a.eval o).run prog w= .ok (.enter f args) w) (hC:Calls prog f args w fun e w'=>e= .returned V/\Below w.heap.size w w') (hS:Kp w0 w l)
  (h: ∀X,Kp w0 X l->wpAnyH prog md ops Q (fun X=>Kp w0 X l) fuel (listed.setIfInBounds i true) (a.put dst V) X):wpAnyH prog md ops Q (fun X=>Kp w0 X l) (fuel+1) listed a w:=by
 subst hd
 refine wpAnyH_ready hr (by simp) (AllReadyH.cons hi (fun K hK=> ?_) AllReadyH.nil)
 rw[if_pos hw]
 unfold Oper.wp
 rw[he,Oper.upon_enter]
 refine hC.mono ?_
 rintro _ X ⟨rfl,hb⟩
 exact hK.out _ _ (hS.on hb) (fun hX=>h X hX)
theorem x00 (i:Nat) (dst:Option Tmp) (v:Value) (hi:ops[i]? =some o) (hS:Kp w0 w l) (h:wpAnyH prog md ops Q (fun X=>Kp w0 X l) fuel (listed.setIfInBounds i true) (a.put dst v) w) (hy: ∀w,(execOp a.eval o).run prog w= .ok (.value v) w:=by intro _;kernel_rfl) (hs:Region.noSelect ops=true:=by kernel_rfl) (hf:Region.free md ops listed i=true:=by kernel_rfl) (hr:(Region.ready md ops listed).contains i=true:=by kernel_rfl) (hQ: ∀c a w,Q (.panic c) (a.put dst v) w->Q (.panic c) a w:=by exact fun _ _ _ h=>h) (hd:o.dst=dst:=by kernel_rfl) (hw:Region.wanted o (yielded ops a.tmps)=true:=by kernel_rfl):wpAnyH prog md ops Q (fun X=>Kp w0 X l) (fuel+1) listed a w:=hpure i dst v hi hs hf hr hQ hd hw hy hS h
theorem x0 {aB:Act} (i:Nat) (dst:Option Tmp) (v:Value) (hi:ops[i]? =some o) (hS:Kp w0 w l) (h:wpAnyH prog md ops Q (fun X=>Kp w0 X l) fuel (listed.setIfInBounds i true) aB w) (hb:a.put dst v=aB:=by simp only[nn]<;>rfl) (hy: ∀w,(execOp a.eval o).run prog w= .ok (.value v) w:=by intro _;kernel_rfl) (hs:Region.noSelect ops=true:=by kernel_rfl) (hf:Region.free md ops listed i=true:=by kernel_rfl) (hr:(Region.ready md ops listed).contains i=true:=by kernel_rfl) (hQ: ∀c a w,Q (.panic c) (a.put dst v) w->Q (.panic c) a w:=by exact fun _ _ _ h=>h) (hd:o.dst=dst:=by kernel_rfl) (hw:Region.wanted o (yielded ops a.tmps)=true:=by kernel_rfl):wpAnyH prog md ops Q (fun X=>Kp w0 X l) (fuel+1) listed a w:=x00 i dst v hi hS (hb▸h) hy hs hf hr hQ hd hw
theorem x10 (i j:Nat) (dst:Option Tmp) {x:Operand} {b:Nat} {d:DD} (hi:ops[i]? =some o) (hl:l[j]? =some (b, .D d)) (hS:Kp w0 w l) (h:wpAnyH prog md ops Q (fun X=>Kp w0 X l) fuel (listed.setIfInBounds i true) (a.put dst d.agg) w) (hs:Region.noSelect ops=true:=by kernel_rfl) (hf:Region.free md ops listed i=true:=by kernel_rfl) (hr:(Region.ready md ops listed).contains i=true:=by kernel_rfl) (hQ: ∀c a w,Q (.panic c) (a.put dst d.agg) w->Q (.panic c) a w:=by exact fun _ _ _ h=>h) (hd:o.dst=dst:=by kernel_rfl) (hw:Region.wanted o (yielded ops a.tmps)=true:=by kernel_rfl) (ho:o.op= .load 39 x:=by kernel_rfl) (hx:a.eval x= .pointer (some ⟨b,0,none⟩):=by kernel_rfl):wpAnyH prog md ops Q (fun X=>Kp w0 X l) (fuel+1) listed a w:=hload27 i j dst hi hs hf hr hQ hd hw ho hx hl hS h
theorem x1 {aB:Act} (i j:Nat) (dst:Option Tmp) {x:Operand} {b:Nat} {d:DD} (hi:ops[i]? =some o) (hl:l[j]? =some (b, .D d)) (hS:Kp w0 w l) (h:wpAnyH prog md ops Q (fun X=>Kp w0 X l) fuel (listed.setIfInBounds i true) aB w) (hb:a.put dst d.agg=aB:=by simp only[nn]<;>rfl) (hs:Region.noSelect ops=true:=by kernel_rfl) (hf:Region.free md ops listed i=true:=by kernel_rfl) (hr:(Region.ready md ops listed).contains i=true:=by kernel_rfl) (hQ: ∀c a w,Q (.panic c) (a.put dst d.agg) w->Q (.panic c) a w:=by exact fun _ _ _ h=>h) (hd:o.dst=dst:=by kernel_rfl) (hw:Region.wanted o (yielded ops a.tmps)=true:=by kernel_rfl) (ho:o.op= .load 39 x:=by kernel_rfl) (hx:a.eval x= .pointer (some ⟨b,0,none⟩):=by kernel_rfl):wpAnyH prog md ops Q (fun X=>Kp w0 X l) (fuel+1) listed a w:=x10 i j dst hi hl hS (hb▸h) hs hf hr hQ hd hw ho hx
theorem x2 (i:Nat) (dst:Option Tmp) {f:FuncId} {args:Array Value} {V:Value} (hi:ops[i]? =some o) (hC:Calls prog f args w fun e w'=>e= .returned V/\Below w.heap.size w w') (hS:Kp w0 w l) (h: ∀X,Kp w0 X l->wpAnyH prog md ops Q (fun X=>Kp w0 X l) fuel (listed.setIfInBounds i true) (a.put dst V) X) (hr:Region.ready md ops listed= [i]:=by kernel_rfl) (hd:o.dst=dst:=by kernel_rfl) (hw:Region.wanted o (yielded ops a.tmps)=true:=by kernel_rfl) (he:(execOp a.eval o).run prog w= .ok (.enter f args) w:=by kernel_rfl):wpAnyH prog md ops Q (fun X=>Kp w0 X l) (fuel+1) listed a w:=hcall i dst hi hr hd hw he hC hS h
end
end
section
open Go Go.Proofs Go.RowKit FM
theorem Zc0 {d:DD} (h:wholeV d=true): ¬Jm d=0:=by
 intro hk
 unfold wholeV at h
 rw[hk] at h
 simp at h
theorem Oe (v:VV):eqB v v=true:=by
 unfold eqB
 simp
theorem Zav (d:DD):eqD d d=true:=by
 unfold eqD
 rw[Oe,Oe,Oe]
 simp
end
section
open Go Go.Proofs Go.RowKit FM Tryz
def turnV (n d:DD):Bool:=Di d !=1 && Di d !=Di n
def Zal (n d:DD):Bool:=if d.c==2||d.e !=0 && d.e !=n.e||turnV n d then true else if Di n==3 then ZcN n.g d.g||ZcN n.s d.s else n.w==1 && (d.w==2||ZcN n.v d.v)
def Ub (n d:DD):DD:=if turnV n d then Kz ⟨d.v,d.g,d.s,d.w,orT d.e n.e,orT d.c n.c⟩ else ⟨orV d.v n.v,orV d.g n.g,orV d.s n.s,orT d.w n.w,orT d.e n.e,orT d.c n.c⟩
theorem turns_00 (n d:DD) (hn:FD n) (hd:FD d) (h1:Di d=0) (h2:Di n=0) (w:World):Calls prog 115 #[n.agg,d.agg] w fun e w'=>e= .returned (.bool (turnV n d))/\Below w.heap.size w w':=by
 have HD:=Ab (Df d hd)
 have HN:=Ab (Df n hn)
 clear hn hd
 have LL:=Ab (Kp.of2 (Lie.new2 w (.D n) (.D d)))
 unfold turnV
 rw[h1,h2]
 rw[h1] at HD
 rw[h2] at HN
 have hq0:=Jc n
 have hq1:=Jc d
 rw[hq0,hq1]
 clear hq0 hq1
 go_enter func115,ntmps115
 go_wp2_with fail
 refine wp_region_held_drew (P:=prog) (S:=fun X=>Kp w X [(w.heap.size, .D n),(w.heap.size+1, .D d)]) (by kernel_rfl) (Kp.drew (Aa LL)) (fun hS0=> ?_)
 refine x1 0 1 (some 5) (x:= .tmp 3) (b:=w.heap.size+1) (d:=d) rfl rfl hS0 ?_
 refine x2 1 (some 6) rfl (Aa HD _) hS0 (fun uw1 hS1=> ?_)
 clear hS0
 simp only[nn]
 refine x0 2 (some 7) (.bool true) rfl hS1 ?_
 refine x0 3 (some 8) (.bool true) rfl hS1 ?_
 refine x1 4 1 (some 9) (x:= .tmp 3) (b:=w.heap.size+1) (d:=d) rfl rfl hS1 ?_
 refine x1 6 0 (some 11) (x:= .tmp 2) (b:=w.heap.size) (d:=n) rfl rfl hS1 ?_
 refine x2 5 (some 10) rfl (Aa HD _) hS1 (fun uw2 hS2=> ?_)
 clear hS1
 simp only[nn]
 refine x2 7 (some 12) rfl (Aa HN _) hS2 (fun uw3 hS3=> ?_)
 clear hS2
 simp only[nn]
 refine x0 8 (some 13) (.bool false) rfl hS3 ?_
 refine x0 9 (some 14) (.bool false) rfl hS3 ?_
 refine x0 10 (some 4) (.bool false) rfl hS3 ?_
 refine wpAnyH_done (by kernel_rfl) ?_ _
 try simp only[nn]
 replace LL:=Ab hS3
 clear hS3
 go_wp2_with fail
 go_ret
 exact⟨rfl,(Aa LL).below⟩
theorem turns_01 (n d:DD) (hn:FD n) (hd:FD d) (h1:Di d=0) (h2:Di n=1) (w:World):Calls prog 115 #[n.agg,d.agg] w fun e w'=>e= .returned (.bool (turnV n d))/\Below w.heap.size w w':=by
 have HD:=Ab (Df d hd)
 have HN:=Ab (Df n hn)
 clear hn hd
 have LL:=Ab (Kp.of2 (Lie.new2 w (.D n) (.D d)))
 unfold turnV
 rw[h1,h2]
 rw[h1] at HD
 rw[h2] at HN
 have hq0:=Jc n
 have hq1:=Jc d
 rw[hq0,hq1]
 clear hq0 hq1
 go_enter func115,ntmps115
 go_wp2_with fail
 refine wp_region_held_drew (P:=prog) (S:=fun X=>Kp w X [(w.heap.size, .D n),(w.heap.size+1, .D d)]) (by kernel_rfl) (Kp.drew (Aa LL)) (fun hS0=> ?_)
 refine x1 0 1 (some 5) (x:= .tmp 3) (b:=w.heap.size+1) (d:=d) rfl rfl hS0 ?_
 refine x2 1 (some 6) rfl (Aa HD _) hS0 (fun uw1 hS1=> ?_)
 clear hS0
 simp only[nn]
 refine x0 2 (some 7) (.bool true) rfl hS1 ?_
 refine x0 3 (some 8) (.bool true) rfl hS1 ?_
 refine x1 4 1 (some 9) (x:= .tmp 3) (b:=w.heap.size+1) (d:=d) rfl rfl hS1 ?_
 refine x1 6 0 (some 11) (x:= .tmp 2) (b:=w.heap.size) (d:=n) rfl rfl hS1 ?_
 refine x2 5 (some 10) rfl (Aa HD _) hS1 (fun uw2 hS2=> ?_)
 clear hS1
 simp only[nn]
 refine x2 7 (some 12) rfl (Aa HN _) hS2 (fun uw3 hS3=> ?_)
 clear hS2
 simp only[nn]
 refine x0 8 (some 13) (.bool true) rfl hS3 ?_
 refine x0 9 (some 14) (.bool true) rfl hS3 ?_
 refine x0 10 (some 4) (.bool true) rfl hS3 ?_
 refine wpAnyH_done (by kernel_rfl) ?_ _
 try simp only[nn]
 replace LL:=Ab hS3
 clear hS3
 go_wp2_with fail
 go_ret
 exact⟨rfl,(Aa LL).below⟩
theorem turns_02 (n d:DD) (hn:FD n) (hd:FD d) (h1:Di d=0) (h2:Di n=2) (w:World):Calls prog 115 #[n.agg,d.agg] w fun e w'=>e= .returned (.bool (turnV n d))/\Below w.heap.size w w':=by
 have HD:=Ab (Df d hd)
 have HN:=Ab (Df n hn)
 clear hn hd
 have LL:=Ab (Kp.of2 (Lie.new2 w (.D n) (.D d)))
 unfold turnV
 rw[h1,h2]
 rw[h1] at HD
 rw[h2] at HN
 have hq0:=Jc n
 have hq1:=Jc d
 rw[hq0,hq1]
 clear hq0 hq1
 go_enter func115,ntmps115
 go_wp2_with fail
 refine wp_region_held_drew (P:=prog) (S:=fun X=>Kp w X [(w.heap.size, .D n),(w.heap.size+1, .D d)]) (by kernel_rfl) (Kp.drew (Aa LL)) (fun hS0=> ?_)
 refine x1 0 1 (some 5) (x:= .tmp 3) (b:=w.heap.size+1) (d:=d) rfl rfl hS0 ?_
 refine x2 1 (some 6) rfl (Aa HD _) hS0 (fun uw1 hS1=> ?_)
 clear hS0
 simp only[nn]
 refine x0 2 (some 7) (.bool true) rfl hS1 ?_
 refine x0 3 (some 8) (.bool true) rfl hS1 ?_
 refine x1 4 1 (some 9) (x:= .tmp 3) (b:=w.heap.size+1) (d:=d) rfl rfl hS1 ?_
 refine x1 6 0 (some 11) (x:= .tmp 2) (b:=w.heap.size) (d:=n) rfl rfl hS1 ?_
 refine x2 5 (some 10) rfl (Aa HD _) hS1 (fun uw2 hS2=> ?_)
 clear hS1
 simp only[nn]
 refine x2 7 (some 12) rfl (Aa HN _) hS2 (fun uw3 hS3=> ?_)
 clear hS2
 simp only[nn]
 refine x0 8 (some 13) (.bool true) rfl hS3 ?_
 refine x0 9 (some 14) (.bool true) rfl hS3 ?_
 refine x0 10 (some 4) (.bool true) rfl hS3 ?_
 refine wpAnyH_done (by kernel_rfl) ?_ _
 try simp only[nn]
 replace LL:=Ab hS3
 clear hS3
 go_wp2_with fail
 go_ret
 exact⟨rfl,(Aa LL).below⟩
theorem turns_03 (n d:DD) (hn:FD n) (hd:FD d) (h1:Di d=0) (h2:Di n=3) (w:World):Calls prog 115 #[n.agg,d.agg] w fun e w'=>e= .returned (.bool (turnV n d))/\Below w.heap.size w w':=by
 have HD:=Ab (Df d hd)
 have HN:=Ab (Df n hn)
 clear hn hd
 have LL:=Ab (Kp.of2 (Lie.new2 w (.D n) (.D d)))
 unfold turnV
 rw[h1,h2]
 rw[h1] at HD
 rw[h2] at HN
 have hq0:=Jc n
 have hq1:=Jc d
 rw[hq0,hq1]
 clear hq0 hq1
 go_enter func115,ntmps115
 go_wp2_with fail
 refine wp_region_held_drew (P:=prog) (S:=fun X=>Kp w X [(w.heap.size, .D n),(w.heap.size+1, .D d)]) (by kernel_rfl) (Kp.drew (Aa LL)) (fun hS0=> ?_)
 refine x1 0 1 (some 5) (x:= .tmp 3) (b:=w.heap.size+1) (d:=d) rfl rfl hS0 ?_
 refine x2 1 (some 6) rfl (Aa HD _) hS0 (fun uw1 hS1=> ?_)
 clear hS0
 simp only[nn]
 refine x0 2 (some 7) (.bool true) rfl hS1 ?_
 refine x0 3 (some 8) (.bool true) rfl hS1 ?_
 refine x1 4 1 (some 9) (x:= .tmp 3) (b:=w.heap.size+1) (d:=d) rfl rfl hS1 ?_
 refine x1 6 0 (some 11) (x:= .tmp 2) (b:=w.heap.size) (d:=n) rfl rfl hS1 ?_
 refine x2 5 (some 10) rfl (Aa HD _) hS1 (fun uw2 hS2=> ?_)
 clear hS1
 simp only[nn]
 refine x2 7 (some 12) rfl (Aa HN _) hS2 (fun uw3 hS3=> ?_)
 clear hS2
 simp only[nn]
 refine x0 8 (some 13) (.bool true) rfl hS3 ?_
 refine x0 9 (some 14) (.bool true) rfl hS3 ?_
 refine x0 10 (some 4) (.bool true) rfl hS3 ?_
 refine wpAnyH_done (by kernel_rfl) ?_ _
 try simp only[nn]
 replace LL:=Ab hS3
 clear hS3
 go_wp2_with fail
 go_ret
 exact⟨rfl,(Aa LL).below⟩
theorem turns_1 (n d:DD) (hn:FD n) (hd:FD d) (h1:Di d=1) (w:World):Calls prog 115 #[n.agg,d.agg] w fun e w'=>e= .returned (.bool (turnV n d))/\Below w.heap.size w w':=by
 have HD:=Ab (Df d hd)
 have HN:=Ab (Df n hn)
 clear hn hd
 have LL:=Ab (Kp.of2 (Lie.new2 w (.D n) (.D d)))
 unfold turnV
 rw[h1]
 rw[h1] at HD
 have hq0:=Jc n
 have hq1:=Jc d
 rw[hq0,hq1]
 clear hq0 hq1
 go_enter func115,ntmps115
 go_wp2_with fail
 refine wp_region_held_drew (P:=prog) (S:=fun X=>Kp w X [(w.heap.size, .D n),(w.heap.size+1, .D d)]) (by kernel_rfl) (Kp.drew (Aa LL)) (fun hS0=> ?_)
 refine x1 0 1 (some 5) (x:= .tmp 3) (b:=w.heap.size+1) (d:=d) rfl rfl hS0 ?_
 refine x2 1 (some 6) rfl (Aa HD _) hS0 (fun uw1 hS1=> ?_)
 clear hS0
 simp only[nn]
 refine x0 2 (some 7) (.bool false) rfl hS1 ?_
 refine x0 3 (some 8) (.bool false) rfl hS1 ?_
 refine ZcC 4 (some 9) rfl (by kernel_rfl) (by kernel_rfl) (by kernel_rfl) (fun _ _ _ h=>h) (by kernel_rfl) (by kernel_rfl) hS1 ?_
 simp only[nn]
 refine ZcC 5 (some 10) rfl (by kernel_rfl) (by kernel_rfl) (by kernel_rfl) (fun _ _ _ h=>h) (by kernel_rfl) (by kernel_rfl) hS1 ?_
 simp only[nn]
 refine ZcC 6 (some 11) rfl (by kernel_rfl) (by kernel_rfl) (by kernel_rfl) (fun _ _ _ h=>h) (by kernel_rfl) (by kernel_rfl) hS1 ?_
 simp only[nn]
 refine ZcC 7 (some 12) rfl (by kernel_rfl) (by kernel_rfl) (by kernel_rfl) (fun _ _ _ h=>h) (by kernel_rfl) (by kernel_rfl) hS1 ?_
 simp only[nn]
 refine ZcC 8 (some 13) rfl (by kernel_rfl) (by kernel_rfl) (by kernel_rfl) (fun _ _ _ h=>h) (by kernel_rfl) (by kernel_rfl) hS1 ?_
 simp only[nn]
 refine x0 9 (some 14) (.bool false) rfl hS1 ?_
 refine x0 10 (some 4) (.bool false) rfl hS1 ?_
 refine wpAnyH_done (by kernel_rfl) ?_ _
 try simp only[nn]
 replace LL:=Ab hS1
 clear hS1
 go_wp2_with fail
 go_ret
 exact⟨rfl,(Aa LL).below⟩
theorem turns_20 (n d:DD) (hn:FD n) (hd:FD d) (h1:Di d=2) (h2:Di n=0) (w:World):Calls prog 115 #[n.agg,d.agg] w fun e w'=>e= .returned (.bool (turnV n d))/\Below w.heap.size w w':=by
 have HD:=Ab (Df d hd)
 have HN:=Ab (Df n hn)
 clear hn hd
 have LL:=Ab (Kp.of2 (Lie.new2 w (.D n) (.D d)))
 unfold turnV
 rw[h1,h2]
 rw[h1] at HD
 rw[h2] at HN
 have hq0:=Jc n
 have hq1:=Jc d
 rw[hq0,hq1]
 clear hq0 hq1
 go_enter func115,ntmps115
 go_wp2_with fail
 refine wp_region_held_drew (P:=prog) (S:=fun X=>Kp w X [(w.heap.size, .D n),(w.heap.size+1, .D d)]) (by kernel_rfl) (Kp.drew (Aa LL)) (fun hS0=> ?_)
 refine x1 0 1 (some 5) (x:= .tmp 3) (b:=w.heap.size+1) (d:=d) rfl rfl hS0 ?_
 refine x2 1 (some 6) rfl (Aa HD _) hS0 (fun uw1 hS1=> ?_)
 clear hS0
 simp only[nn]
 refine x0 2 (some 7) (.bool true) rfl hS1 ?_
 refine x0 3 (some 8) (.bool true) rfl hS1 ?_
 refine x1 4 1 (some 9) (x:= .tmp 3) (b:=w.heap.size+1) (d:=d) rfl rfl hS1 ?_
 refine x1 6 0 (some 11) (x:= .tmp 2) (b:=w.heap.size) (d:=n) rfl rfl hS1 ?_
 refine x2 5 (some 10) rfl (Aa HD _) hS1 (fun uw2 hS2=> ?_)
 clear hS1
 simp only[nn]
 refine x2 7 (some 12) rfl (Aa HN _) hS2 (fun uw3 hS3=> ?_)
 clear hS2
 simp only[nn]
 refine x0 8 (some 13) (.bool true) rfl hS3 ?_
 refine x0 9 (some 14) (.bool true) rfl hS3 ?_
 refine x0 10 (some 4) (.bool true) rfl hS3 ?_
 refine wpAnyH_done (by kernel_rfl) ?_ _
 try simp only[nn]
 replace LL:=Ab hS3
 clear hS3
 go_wp2_with fail
 go_ret
 exact⟨rfl,(Aa LL).below⟩
theorem turns_21 (n d:DD) (hn:FD n) (hd:FD d) (h1:Di d=2) (h2:Di n=1) (w:World):Calls prog 115 #[n.agg,d.agg] w fun e w'=>e= .returned (.bool (turnV n d))/\Below w.heap.size w w':=by
 have HD:=Ab (Df d hd)
 have HN:=Ab (Df n hn)
 clear hn hd
 have LL:=Ab (Kp.of2 (Lie.new2 w (.D n) (.D d)))
 unfold turnV
 rw[h1,h2]
 rw[h1] at HD
 rw[h2] at HN
 have hq0:=Jc n
 have hq1:=Jc d
 rw[hq0,hq1]
 clear hq0 hq1
 go_enter func115,ntmps115
 go_wp2_with fail
 refine wp_region_held_drew (P:=prog) (S:=fun X=>Kp w X [(w.heap.size, .D n),(w.heap.size+1, .D d)]) (by kernel_rfl) (Kp.drew (Aa LL)) (fun hS0=> ?_)
 refine x1 0 1 (some 5) (x:= .tmp 3) (b:=w.heap.size+1) (d:=d) rfl rfl hS0 ?_
 refine x2 1 (some 6) rfl (Aa HD _) hS0 (fun uw1 hS1=> ?_)
 clear hS0
 simp only[nn]
 refine x0 2 (some 7) (.bool true) rfl hS1 ?_
 refine x0 3 (some 8) (.bool true) rfl hS1 ?_
 refine x1 4 1 (some 9) (x:= .tmp 3) (b:=w.heap.size+1) (d:=d) rfl rfl hS1 ?_
 refine x1 6 0 (some 11) (x:= .tmp 2) (b:=w.heap.size) (d:=n) rfl rfl hS1 ?_
 refine x2 5 (some 10) rfl (Aa HD _) hS1 (fun uw2 hS2=> ?_)
 clear hS1
 simp only[nn]
 refine x2 7 (some 12) rfl (Aa HN _) hS2 (fun uw3 hS3=> ?_)
 clear hS2
 simp only[nn]
 refine x0 8 (some 13) (.bool true) rfl hS3 ?_
 refine x0 9 (some 14) (.bool true) rfl hS3 ?_
 refine x0 10 (some 4) (.bool true) rfl hS3 ?_
 refine wpAnyH_done (by kernel_rfl) ?_ _
 try simp only[nn]
 replace LL:=Ab hS3
 clear hS3
 go_wp2_with fail
 go_ret
 exact⟨rfl,(Aa LL).below⟩
theorem turns_22 (n d:DD) (hn:FD n) (hd:FD d) (h1:Di d=2) (h2:Di n=2) (w:World):Calls prog 115 #[n.agg,d.agg] w fun e w'=>e= .returned (.bool (turnV n d))/\Below w.heap.size w w':=by
 have HD:=Ab (Df d hd)
 have HN:=Ab (Df n hn)
 clear hn hd
 have LL:=Ab (Kp.of2 (Lie.new2 w (.D n) (.D d)))
 unfold turnV
 rw[h1,h2]
 rw[h1] at HD
 rw[h2] at HN
 have hq0:=Jc n
 have hq1:=Jc d
 rw[hq0,hq1]
 clear hq0 hq1
 go_enter func115,ntmps115
 go_wp2_with fail
 refine wp_region_held_drew (P:=prog) (S:=fun X=>Kp w X [(w.heap.size, .D n),(w.heap.size+1, .D d)]) (by kernel_rfl) (Kp.drew (Aa LL)) (fun hS0=> ?_)
 refine x1 0 1 (some 5) (x:= .tmp 3) (b:=w.heap.size+1) (d:=d) rfl rfl hS0 ?_
 refine x2 1 (some 6) rfl (Aa HD _) hS0 (fun uw1 hS1=> ?_)
 clear hS0
 simp only[nn]
 refine x0 2 (some 7) (.bool true) rfl hS1 ?_
 refine x0 3 (some 8) (.bool true) rfl hS1 ?_
 refine x1 4 1 (some 9) (x:= .tmp 3) (b:=w.heap.size+1) (d:=d) rfl rfl hS1 ?_
 refine x1 6 0 (some 11) (x:= .tmp 2) (b:=w.heap.size) (d:=n) rfl rfl hS1 ?_
 refine x2 5 (some 10) rfl (Aa HD _) hS1 (fun uw2 hS2=> ?_)
 clear hS1
 simp only[nn]
 refine x2 7 (some 12) rfl (Aa HN _) hS2 (fun uw3 hS3=> ?_)
 clear hS2
 simp only[nn]
 refine x0 8 (some 13) (.bool false) rfl hS3 ?_
 refine x0 9 (some 14) (.bool false) rfl hS3 ?_
 refine x0 10 (some 4) (.bool false) rfl hS3 ?_
 refine wpAnyH_done (by kernel_rfl) ?_ _
 try simp only[nn]
 replace LL:=Ab hS3
 clear hS3
 go_wp2_with fail
 go_ret
 exact⟨rfl,(Aa LL).below⟩
theorem turns_23 (n d:DD) (hn:FD n) (hd:FD d) (h1:Di d=2) (h2:Di n=3) (w:World):Calls prog 115 #[n.agg,d.agg] w fun e w'=>e= .returned (.bool (turnV n d))/\Below w.heap.size w w':=by
 have HD:=Ab (Df d hd)
 have HN:=Ab (Df n hn)
 clear hn hd
 have LL:=Ab (Kp.of2 (Lie.new2 w (.D n) (.D d)))
 unfold turnV
 rw[h1,h2]
 rw[h1] at HD
 rw[h2] at HN
 have hq0:=Jc n
 have hq1:=Jc d
 rw[hq0,hq1]
 clear hq0 hq1
 go_enter func115,ntmps115
 go_wp2_with fail
 refine wp_region_held_drew (P:=prog) (S:=fun X=>Kp w X [(w.heap.size, .D n),(w.heap.size+1, .D d)]) (by kernel_rfl) (Kp.drew (Aa LL)) (fun hS0=> ?_)
 refine x1 0 1 (some 5) (x:= .tmp 3) (b:=w.heap.size+1) (d:=d) rfl rfl hS0 ?_
 refine x2 1 (some 6) rfl (Aa HD _) hS0 (fun uw1 hS1=> ?_)
 clear hS0
 simp only[nn]
 refine x0 2 (some 7) (.bool true) rfl hS1 ?_
 refine x0 3 (some 8) (.bool true) rfl hS1 ?_
 refine x1 4 1 (some 9) (x:= .tmp 3) (b:=w.heap.size+1) (d:=d) rfl rfl hS1 ?_
 refine x1 6 0 (some 11) (x:= .tmp 2) (b:=w.heap.size) (d:=n) rfl rfl hS1 ?_
 refine x2 5 (some 10) rfl (Aa HD _) hS1 (fun uw2 hS2=> ?_)
 clear hS1
 simp only[nn]
 refine x2 7 (some 12) rfl (Aa HN _) hS2 (fun uw3 hS3=> ?_)
 clear hS2
 simp only[nn]
 refine x0 8 (some 13) (.bool true) rfl hS3 ?_
 refine x0 9 (some 14) (.bool true) rfl hS3 ?_
 refine x0 10 (some 4) (.bool true) rfl hS3 ?_
 refine wpAnyH_done (by kernel_rfl) ?_ _
 try simp only[nn]
 replace LL:=Ab hS3
 clear hS3
 go_wp2_with fail
 go_ret
 exact⟨rfl,(Aa LL).below⟩
theorem turns_30 (n d:DD) (hn:FD n) (hd:FD d) (h1:Di d=3) (h2:Di n=0) (w:World):Calls prog 115 #[n.agg,d.agg] w fun e w'=>e= .returned (.bool (turnV n d))/\Below w.heap.size w w':=by
 have HD:=Ab (Df d hd)
 have HN:=Ab (Df n hn)
 clear hn hd
 have LL:=Ab (Kp.of2 (Lie.new2 w (.D n) (.D d)))
 unfold turnV
 rw[h1,h2]
 rw[h1] at HD
 rw[h2] at HN
 have hq0:=Jc n
 have hq1:=Jc d
 rw[hq0,hq1]
 clear hq0 hq1
 go_enter func115,ntmps115
 go_wp2_with fail
 refine wp_region_held_drew (P:=prog) (S:=fun X=>Kp w X [(w.heap.size, .D n),(w.heap.size+1, .D d)]) (by kernel_rfl) (Kp.drew (Aa LL)) (fun hS0=> ?_)
 refine x1 0 1 (some 5) (x:= .tmp 3) (b:=w.heap.size+1) (d:=d) rfl rfl hS0 ?_
 refine x2 1 (some 6) rfl (Aa HD _) hS0 (fun uw1 hS1=> ?_)
 clear hS0
 simp only[nn]
 refine x0 2 (some 7) (.bool true) rfl hS1 ?_
 refine x0 3 (some 8) (.bool true) rfl hS1 ?_
 refine x1 4 1 (some 9) (x:= .tmp 3) (b:=w.heap.size+1) (d:=d) rfl rfl hS1 ?_
 refine x1 6 0 (some 11) (x:= .tmp 2) (b:=w.heap.size) (d:=n) rfl rfl hS1 ?_
 refine x2 5 (some 10) rfl (Aa HD _) hS1 (fun uw2 hS2=> ?_)
 clear hS1
 simp only[nn]
 refine x2 7 (some 12) rfl (Aa HN _) hS2 (fun uw3 hS3=> ?_)
 clear hS2
 simp only[nn]
 refine x0 8 (some 13) (.bool true) rfl hS3 ?_
 refine x0 9 (some 14) (.bool true) rfl hS3 ?_
 refine x0 10 (some 4) (.bool true) rfl hS3 ?_
 refine wpAnyH_done (by kernel_rfl) ?_ _
 try simp only[nn]
 replace LL:=Ab hS3
 clear hS3
 go_wp2_with fail
 go_ret
 exact⟨rfl,(Aa LL).below⟩
theorem turns_31 (n d:DD) (hn:FD n) (hd:FD d) (h1:Di d=3) (h2:Di n=1) (w:World):Calls prog 115 #[n.agg,d.agg] w fun e w'=>e= .returned (.bool (turnV n d))/\Below w.heap.size w w':=by
 have HD:=Ab (Df d hd)
 have HN:=Ab (Df n hn)
 clear hn hd
 have LL:=Ab (Kp.of2 (Lie.new2 w (.D n) (.D d)))
 unfold turnV
 rw[h1,h2]
 rw[h1] at HD
 rw[h2] at HN
 have hq0:=Jc n
 have hq1:=Jc d
 rw[hq0,hq1]
 clear hq0 hq1
 go_enter func115,ntmps115
 go_wp2_with fail
 refine wp_region_held_drew (P:=prog) (S:=fun X=>Kp w X [(w.heap.size, .D n),(w.heap.size+1, .D d)]) (by kernel_rfl) (Kp.drew (Aa LL)) (fun hS0=> ?_)
 refine x1 0 1 (some 5) (x:= .tmp 3) (b:=w.heap.size+1) (d:=d) rfl rfl hS0 ?_
 refine x2 1 (some 6) rfl (Aa HD _) hS0 (fun uw1 hS1=> ?_)
 clear hS0
 simp only[nn]
 refine x0 2 (some 7) (.bool true) rfl hS1 ?_
 refine x0 3 (some 8) (.bool true) rfl hS1 ?_
 refine x1 4 1 (some 9) (x:= .tmp 3) (b:=w.heap.size+1) (d:=d) rfl rfl hS1 ?_
 refine x1 6 0 (some 11) (x:= .tmp 2) (b:=w.heap.size) (d:=n) rfl rfl hS1 ?_
 refine x2 5 (some 10) rfl (Aa HD _) hS1 (fun uw2 hS2=> ?_)
 clear hS1
 simp only[nn]
 refine x2 7 (some 12) rfl (Aa HN _) hS2 (fun uw3 hS3=> ?_)
 clear hS2
 simp only[nn]
 refine x0 8 (some 13) (.bool true) rfl hS3 ?_
 refine x0 9 (some 14) (.bool true) rfl hS3 ?_
 refine x0 10 (some 4) (.bool true) rfl hS3 ?_
 refine wpAnyH_done (by kernel_rfl) ?_ _
 try simp only[nn]
 replace LL:=Ab hS3
 clear hS3
 go_wp2_with fail
 go_ret
 exact⟨rfl,(Aa LL).below⟩
theorem turns_32 (n d:DD) (hn:FD n) (hd:FD d) (h1:Di d=3) (h2:Di n=2) (w:World):Calls prog 115 #[n.agg,d.agg] w fun e w'=>e= .returned (.bool (turnV n d))/\Below w.heap.size w w':=by
 have HD:=Ab (Df d hd)
 have HN:=Ab (Df n hn)
 clear hn hd
 have LL:=Ab (Kp.of2 (Lie.new2 w (.D n) (.D d)))
 unfold turnV
 rw[h1,h2]
 rw[h1] at HD
 rw[h2] at HN
 have hq0:=Jc n
 have hq1:=Jc d
 rw[hq0,hq1]
 clear hq0 hq1
 go_enter func115,ntmps115
 go_wp2_with fail
 refine wp_region_held_drew (P:=prog) (S:=fun X=>Kp w X [(w.heap.size, .D n),(w.heap.size+1, .D d)]) (by kernel_rfl) (Kp.drew (Aa LL)) (fun hS0=> ?_)
 refine x1 0 1 (some 5) (x:= .tmp 3) (b:=w.heap.size+1) (d:=d) rfl rfl hS0 ?_
 refine x2 1 (some 6) rfl (Aa HD _) hS0 (fun uw1 hS1=> ?_)
 clear hS0
 simp only[nn]
 refine x0 2 (some 7) (.bool true) rfl hS1 ?_
 refine x0 3 (some 8) (.bool true) rfl hS1 ?_
 refine x1 4 1 (some 9) (x:= .tmp 3) (b:=w.heap.size+1) (d:=d) rfl rfl hS1 ?_
 refine x1 6 0 (some 11) (x:= .tmp 2) (b:=w.heap.size) (d:=n) rfl rfl hS1 ?_
 refine x2 5 (some 10) rfl (Aa HD _) hS1 (fun uw2 hS2=> ?_)
 clear hS1
 simp only[nn]
 refine x2 7 (some 12) rfl (Aa HN _) hS2 (fun uw3 hS3=> ?_)
 clear hS2
 simp only[nn]
 refine x0 8 (some 13) (.bool true) rfl hS3 ?_
 refine x0 9 (some 14) (.bool true) rfl hS3 ?_
 refine x0 10 (some 4) (.bool true) rfl hS3 ?_
 refine wpAnyH_done (by kernel_rfl) ?_ _
 try simp only[nn]
 replace LL:=Ab hS3
 clear hS3
 go_wp2_with fail
 go_ret
 exact⟨rfl,(Aa LL).below⟩
theorem turns_33 (n d:DD) (hn:FD n) (hd:FD d) (h1:Di d=3) (h2:Di n=3) (w:World):Calls prog 115 #[n.agg,d.agg] w fun e w'=>e= .returned (.bool (turnV n d))/\Below w.heap.size w w':=by
 have HD:=Ab (Df d hd)
 have HN:=Ab (Df n hn)
 clear hn hd
 have LL:=Ab (Kp.of2 (Lie.new2 w (.D n) (.D d)))
 unfold turnV
 rw[h1,h2]
 rw[h1] at HD
 rw[h2] at HN
 have hq0:=Jc n
 have hq1:=Jc d
 rw[hq0,hq1]
 clear hq0 hq1
 go_enter func115,ntmps115
 go_wp2_with fail
 refine wp_region_held_drew (P:=prog) (S:=fun X=>Kp w X [(w.heap.size, .D n),(w.heap.size+1, .D d)]) (by kernel_rfl) (Kp.drew (Aa LL)) (fun hS0=> ?_)
 refine x1 0 1 (some 5) (x:= .tmp 3) (b:=w.heap.size+1) (d:=d) rfl rfl hS0 ?_
 refine x2 1 (some 6) rfl (Aa HD _) hS0 (fun uw1 hS1=> ?_)
 clear hS0
 simp only[nn]
 refine x0 2 (some 7) (.bool true) rfl hS1 ?_
 refine x0 3 (some 8) (.bool true) rfl hS1 ?_
 refine x1 4 1 (some 9) (x:= .tmp 3) (b:=w.heap.size+1) (d:=d) rfl rfl hS1 ?_
 refine x1 6 0 (some 11) (x:= .tmp 2) (b:=w.heap.size) (d:=n) rfl rfl hS1 ?_
 refine x2 5 (some 10) rfl (Aa HD _) hS1 (fun uw2 hS2=> ?_)
 clear hS1
 simp only[nn]
 refine x2 7 (some 12) rfl (Aa HN _) hS2 (fun uw3 hS3=> ?_)
 clear hS2
 simp only[nn]
 refine x0 8 (some 13) (.bool false) rfl hS3 ?_
 refine x0 9 (some 14) (.bool false) rfl hS3 ?_
 refine x0 10 (some 4) (.bool false) rfl hS3 ?_
 refine wpAnyH_done (by kernel_rfl) ?_ _
 try simp only[nn]
 replace LL:=Ab hS3
 clear hS3
 go_wp2_with fail
 go_ret
 exact⟨rfl,(Aa LL).below⟩
theorem Mz (d:DD):Di d=0∨Di d=1∨Di d=2∨Di d=3:=by
 unfold Di
 split
 ·exact Or.inl rfl
 ·split
  ·exact Or.inr (Or.inr (Or.inl rfl))
  ·split
   ·exact Or.inr (Or.inr (Or.inr rfl))
   ·exact Or.inr (Or.inl rfl)
theorem ZaR (n d:DD) (hn:FD n) (hd:FD d) (w:World):Calls prog 115 #[n.agg,d.agg] w fun e w'=>e= .returned (.bool (turnV n d))/\Below w.heap.size w w':=by
 rcases Mz d with h1|h1|h1|h1
 ·rcases Mz n with h2|h2|h2|h2
  ·exact turns_00 n d hn hd h1 h2 w
  ·exact turns_01 n d hn hd h1 h2 w
  ·exact turns_02 n d hn hd h1 h2 w
  ·exact turns_03 n d hn hd h1 h2 w
 ·exact turns_1 n d hn hd h1 w
 ·rcases Mz n with h2|h2|h2|h2
  ·exact turns_20 n d hn hd h1 h2 w
  ·exact turns_21 n d hn hd h1 h2 w
  ·exact turns_22 n d hn hd h1 h2 w
  ·exact turns_23 n d hn hd h1 h2 w
 ·rcases Mz n with h2|h2|h2|h2
  ·exact turns_30 n d hn hd h1 h2 w
  ·exact turns_31 n d hn hd h1 h2 w
  ·exact turns_32 n d hn hd h1 h2 w
  ·exact turns_33 n d hn hd h1 h2 w

theorem ZaO (n d:DD) (hn:FD n) (hd:FD d) (w:World) (hT:Lib.Utf8Tabs 1 2 w):Calls prog 98 #[n.agg,d.agg] w fun e w'=>e= .returned (.bool (Zal n d))/\Below w.heap.size w w':=by
 have HT:=Ab hT
 clear hT
 have HTu:=Ab (ZaR n d hn hd)
 have HSh:=Ab (Df n hn)
 have HG:=Ab (fun w hT=>Qg n.g d.g hn.2.1 hd.2.1 w hT)
 have HS:=Ab (fun w hT=>Qg n.s d.s hn.2.2 hd.2.2 w hT)
 have HV:=Ab (fun w hT=>Qg n.v d.v hn.1 hd.1 w hT)
 clear hn hd
 have LL:=Ab (Lie.new2 w (.D n) (.D d))
 unfold Zal
 generalize turnV n d=tu at *
 generalize Di n=sh at *
 generalize ZcN n.g d.g=dg at *
 generalize ZcN n.s d.s=ds at *
 generalize ZcN n.v d.v=dv at *
 generalize hq2:(d.c==2)=q2 at *
 generalize hqe:(d.e !=0)=qe at *
 generalize hqn:(d.e !=n.e)=qn at *
 generalize hn1:(n.w==1)=n1 at *
 generalize hw2:(d.w==2)=w2 at *
 have hq0:=Jc n
 have hq1:=Jc d
 rw[hq0,hq1]
 clear hq0 hq1
 by_cases h3:sh=3
 ·subst h3
  go_enter func98,ntmps98
  cases q2
  ·cases qe
   ·go_wp2_with (first|go_skip|((with_reducible apply Dg);(case ho=>rfl);(case hw=>rfl);(case hx=>rfl);(case hc=>first|exact(Aa LL).one|exact(Aa LL).two);simp only[nn])|((with_reducible apply Ep);(case ho=>rfl);(case hw=>rfl);(case hx=>rfl);(case hc=>first|exact(Aa LL).one|exact(Aa LL).two);simp only[nn])|((with_reducible apply Ex);(case ho=>rfl);(case hw=>rfl);(case hx=>rfl);(case hc=>first|exact(Aa LL).one|exact(Aa LL).two);simp only[nn])|(go_at_call 106;refine(Ea _ _).mono ?_;rintro _ _ ⟨rfl,rfl⟩))
    refine(Aa HTu _).mono ?_
    rintro _ w16 ⟨rfl,hb⟩
    replace LL:=Ab ((Aa LL).on hb)
    clear hb
    cases tu
    ·go_wp2_with (first|go_skip|((with_reducible apply Dg);(case ho=>rfl);(case hw=>rfl);(case hx=>rfl);(case hc=>first|exact(Aa LL).one|exact(Aa LL).two);simp only[nn]))
     refine(Aa HSh _).mono ?_
     rintro _ w17 ⟨rfl,hb⟩
     replace LL:=Ab ((Aa LL).on hb)
     clear hb
     go_wp2_with (first|go_skip|((with_reducible apply Zg);(case ho=>rfl);(case hw=>rfl);(case hx=>rfl);(case hc=>first|exact(Aa LL).one|exact(Aa LL).two);simp only[nn]))
     refine(Aa HG _ (Au (Aa HT) (Aa LL).below)).mono ?_
     rintro _ w18 ⟨rfl,hb⟩
     replace LL:=Ab ((Aa LL).on hb)
     clear hb
     cases dg
     ·go_wp2_with (first|go_skip|((with_reducible apply Zf);(case ho=>rfl);(case hw=>rfl);(case hx=>rfl);(case hc=>first|exact(Aa LL).one|exact(Aa LL).two);simp only[nn]))
      refine(Aa HS _ (Au (Aa HT) (Aa LL).below)).mono ?_
      rintro _ w19 ⟨rfl,hb⟩
      replace LL:=Ab ((Aa LL).on hb)
      clear hb
      go_wp2_with (go_skip)
      go_ret
      exact⟨rfl,(Aa LL).below⟩
     ·go_wp2_with (go_skip)
      go_ret
      exact⟨rfl,(Aa LL).below⟩
    ·go_wp2_with (go_skip)
     go_ret
     exact⟨rfl,(Aa LL).below⟩
   ·cases qn
    ·go_wp2_with (first|go_skip|((with_reducible apply Dg);(case ho=>rfl);(case hw=>rfl);(case hx=>rfl);(case hc=>first|exact(Aa LL).one|exact(Aa LL).two);simp only[nn])|((with_reducible apply Ep);(case ho=>rfl);(case hw=>rfl);(case hx=>rfl);(case hc=>first|exact(Aa LL).one|exact(Aa LL).two);simp only[nn])|((with_reducible apply Ex);(case ho=>rfl);(case hw=>rfl);(case hx=>rfl);(case hc=>first|exact(Aa LL).one|exact(Aa LL).two);simp only[nn])|(go_at_call 106;refine(Ea _ _).mono ?_;rintro _ _ ⟨rfl,rfl⟩))
     refine(Aa HTu _).mono ?_
     rintro _ w22 ⟨rfl,hb⟩
     replace LL:=Ab ((Aa LL).on hb)
     clear hb
     cases tu
     ·go_wp2_with (first|go_skip|((with_reducible apply Dg);(case ho=>rfl);(case hw=>rfl);(case hx=>rfl);(case hc=>first|exact(Aa LL).one|exact(Aa LL).two);simp only[nn]))
      refine(Aa HSh _).mono ?_
      rintro _ w23 ⟨rfl,hb⟩
      replace LL:=Ab ((Aa LL).on hb)
      clear hb
      go_wp2_with (first|go_skip|((with_reducible apply Zg);(case ho=>rfl);(case hw=>rfl);(case hx=>rfl);(case hc=>first|exact(Aa LL).one|exact(Aa LL).two);simp only[nn]))
      refine(Aa HG _ (Au (Aa HT) (Aa LL).below)).mono ?_
      rintro _ w24 ⟨rfl,hb⟩
      replace LL:=Ab ((Aa LL).on hb)
      clear hb
      cases dg
      ·go_wp2_with (first|go_skip|((with_reducible apply Zf);(case ho=>rfl);(case hw=>rfl);(case hx=>rfl);(case hc=>first|exact(Aa LL).one|exact(Aa LL).two);simp only[nn]))
       refine(Aa HS _ (Au (Aa HT) (Aa LL).below)).mono ?_
       rintro _ w25 ⟨rfl,hb⟩
       replace LL:=Ab ((Aa LL).on hb)
       clear hb
       go_wp2_with (go_skip)
       go_ret
       exact⟨rfl,(Aa LL).below⟩
      ·go_wp2_with (go_skip)
       go_ret
       exact⟨rfl,(Aa LL).below⟩
     ·go_wp2_with (go_skip)
      go_ret
      exact⟨rfl,(Aa LL).below⟩
    ·go_wp2_with (first|go_skip|((with_reducible apply Ep);(case ho=>rfl);(case hw=>rfl);(case hx=>rfl);(case hc=>first|exact(Aa LL).one|exact(Aa LL).two);simp only[nn])|((with_reducible apply Ex);(case ho=>rfl);(case hw=>rfl);(case hx=>rfl);(case hc=>first|exact(Aa LL).one|exact(Aa LL).two);simp only[nn])|(go_at_call 106;refine(Ea _ _).mono ?_;rintro _ _ ⟨rfl,rfl⟩))
     go_ret
     exact⟨rfl,(Aa LL).below⟩
  ·go_wp2_with (first|go_skip|((with_reducible apply Ex);(case ho=>rfl);(case hw=>rfl);(case hx=>rfl);(case hc=>first|exact(Aa LL).one|exact(Aa LL).two);simp only[nn]))
   go_ret
   exact⟨rfl,(Aa LL).below⟩
 ·have e3:(sh==3)=false:=by simp[h3]
  rw[e3]
  go_enter func98,ntmps98
  cases q2
  ·cases qe
   ·go_wp2_with (first|go_skip|((with_reducible apply Dg);(case ho=>rfl);(case hw=>rfl);(case hx=>rfl);(case hc=>first|exact(Aa LL).one|exact(Aa LL).two);simp only[nn])|((with_reducible apply Ep);(case ho=>rfl);(case hw=>rfl);(case hx=>rfl);(case hc=>first|exact(Aa LL).one|exact(Aa LL).two);simp only[nn])|((with_reducible apply Ex);(case ho=>rfl);(case hw=>rfl);(case hx=>rfl);(case hc=>first|exact(Aa LL).one|exact(Aa LL).two);simp only[nn])|(go_at_call 106;refine(Ea _ _).mono ?_;rintro _ _ ⟨rfl,rfl⟩))
    refine(Aa HTu _).mono ?_
    rintro _ w28 ⟨rfl,hb⟩
    replace LL:=Ab ((Aa LL).on hb)
    clear hb
    cases tu
    ·go_wp2_with (first|go_skip|((with_reducible apply Dg);(case ho=>rfl);(case hw=>rfl);(case hx=>rfl);(case hc=>first|exact(Aa LL).one|exact(Aa LL).two);simp only[nn]))
     refine(Aa HSh _).mono ?_
     rintro _ w32 ⟨rfl,hb⟩
     replace LL:=Ab ((Aa LL).on hb)
     clear hb
     cases n1
     ·go_wp2_with (first|go_skip|((with_reducible apply Kv);(case ho=>rfl);(case hw=>rfl);(case hx=>rfl);(case hc=>first|exact(Aa LL).one|exact(Aa LL).two);simp only[nn]))
      go_ret
      exact⟨rfl,(Aa LL).below⟩
     ·cases w2
      ·go_wp2_with (first|go_skip|((with_reducible apply Ze);(case ho=>rfl);(case hw=>rfl);(case hx=>rfl);(case hc=>first|exact(Aa LL).one|exact(Aa LL).two);simp only[nn])|((with_reducible apply Kv);(case ho=>rfl);(case hw=>rfl);(case hx=>rfl);(case hc=>first|exact(Aa LL).one|exact(Aa LL).two);simp only[nn]))
       refine(Aa HV _ (Au (Aa HT) (Aa LL).below)).mono ?_
       rintro _ w33 ⟨rfl,hb⟩
       replace LL:=Ab ((Aa LL).on hb)
       clear hb
       go_wp2_with (go_skip)
       go_ret
       exact⟨rfl,(Aa LL).below⟩
      ·go_wp2_with (first|go_skip|((with_reducible apply Kv);(case ho=>rfl);(case hw=>rfl);(case hx=>rfl);(case hc=>first|exact(Aa LL).one|exact(Aa LL).two);simp only[nn]))
       go_ret
       exact⟨rfl,(Aa LL).below⟩
    ·go_wp2_with (go_skip)
     go_ret
     exact⟨rfl,(Aa LL).below⟩
   ·cases qn
    ·go_wp2_with (first|go_skip|((with_reducible apply Dg);(case ho=>rfl);(case hw=>rfl);(case hx=>rfl);(case hc=>first|exact(Aa LL).one|exact(Aa LL).two);simp only[nn])|((with_reducible apply Ep);(case ho=>rfl);(case hw=>rfl);(case hx=>rfl);(case hc=>first|exact(Aa LL).one|exact(Aa LL).two);simp only[nn])|((with_reducible apply Ex);(case ho=>rfl);(case hw=>rfl);(case hx=>rfl);(case hc=>first|exact(Aa LL).one|exact(Aa LL).two);simp only[nn])|(go_at_call 106;refine(Ea _ _).mono ?_;rintro _ _ ⟨rfl,rfl⟩))
     refine(Aa HTu _).mono ?_
     rintro _ w34 ⟨rfl,hb⟩
     replace LL:=Ab ((Aa LL).on hb)
     clear hb
     cases tu
     ·go_wp2_with (first|go_skip|((with_reducible apply Dg);(case ho=>rfl);(case hw=>rfl);(case hx=>rfl);(case hc=>first|exact(Aa LL).one|exact(Aa LL).two);simp only[nn]))
      refine(Aa HSh _).mono ?_
      rintro _ w38 ⟨rfl,hb⟩
      replace LL:=Ab ((Aa LL).on hb)
      clear hb
      cases n1
      ·go_wp2_with (first|go_skip|((with_reducible apply Kv);(case ho=>rfl);(case hw=>rfl);(case hx=>rfl);(case hc=>first|exact(Aa LL).one|exact(Aa LL).two);simp only[nn]))
       go_ret
       exact⟨rfl,(Aa LL).below⟩
      ·cases w2
       ·go_wp2_with (first|go_skip|((with_reducible apply Ze);(case ho=>rfl);(case hw=>rfl);(case hx=>rfl);(case hc=>first|exact(Aa LL).one|exact(Aa LL).two);simp only[nn])|((with_reducible apply Kv);(case ho=>rfl);(case hw=>rfl);(case hx=>rfl);(case hc=>first|exact(Aa LL).one|exact(Aa LL).two);simp only[nn]))
        refine(Aa HV _ (Au (Aa HT) (Aa LL).below)).mono ?_
        rintro _ w39 ⟨rfl,hb⟩
        replace LL:=Ab ((Aa LL).on hb)
        clear hb
        go_wp2_with (go_skip)
        go_ret
        exact⟨rfl,(Aa LL).below⟩
       ·go_wp2_with (first|go_skip|((with_reducible apply Kv);(case ho=>rfl);(case hw=>rfl);(case hx=>rfl);(case hc=>first|exact(Aa LL).one|exact(Aa LL).two);simp only[nn]))
        go_ret
        exact⟨rfl,(Aa LL).below⟩
     ·go_wp2_with (go_skip)
      go_ret
      exact⟨rfl,(Aa LL).below⟩
    ·go_wp2_with (first|go_skip|((with_reducible apply Ep);(case ho=>rfl);(case hw=>rfl);(case hx=>rfl);(case hc=>first|exact(Aa LL).one|exact(Aa LL).two);simp only[nn])|((with_reducible apply Ex);(case ho=>rfl);(case hw=>rfl);(case hx=>rfl);(case hc=>first|exact(Aa LL).one|exact(Aa LL).two);simp only[nn])|(go_at_call 106;refine(Ea _ _).mono ?_;rintro _ _ ⟨rfl,rfl⟩))
     go_ret
     exact⟨rfl,(Aa LL).below⟩
  ·go_wp2_with (first|go_skip|((with_reducible apply Ex);(case ho=>rfl);(case hw=>rfl);(case hx=>rfl);(case hc=>first|exact(Aa LL).one|exact(Aa LL).two);simp only[nn]))
   go_ret
   exact⟨rfl,(Aa LL).below⟩
def Kr (w:World) (b:Nat) (l:List (Nat×PB)) (X:World):Prop:= ∃r,Kp w X ((b, .D r)::l)
theorem Kr.on {w X X1:World} {b:Nat} {l:List (Nat×PB)} (h:Kr w b l X) (hb:Below X.heap.size X X1):Kr w b l X1:=by
 obtain⟨r,hr⟩:=h
 exact⟨r,hr.on hb⟩
theorem Kp.of3 {w X:World} {p p2 p3:PB} (h:Lie w X [p,p2,p3]):Kp w X [(w.heap.size+2,p3),(w.heap.size,p),(w.heap.size+1,p2)]:=
 ⟨h.below,fun q hq=>by
  have hs:=h.size
  simp at hs hq
  rcases hq with rfl|rfl|rfl
  ·exact⟨Nat.le_add_right _ _,by show w.heap.size+2<X.heap.size;omega,h.holds.2.2.1⟩
  ·exact⟨Nat.le_refl _,by show w.heap.size<X.heap.size;omega,h.holds.1⟩
  ·exact⟨Nat.le_succ _,by show w.heap.size+1<X.heap.size;omega,h.holds.2.1⟩,by simp⟩
section
variable {md : Region.Mode} {ops : Array Oper} {Q : Exit → Act → World → Prop} {w0 w : World} {l : List (Nat × PB)} {rb : Nat} {fuel : Nat} {listed : Array Bool} {a : Act} {o : Oper}
theorem Jk (i:Nat) (dst:Option Tmp) (v:Value) (hi:ops[i]? =some o) (hs:Region.noSelect ops=true) (hf:Region.free md ops listed i=true) (hr:(Region.ready md ops listed).contains i=true)
  (hQ: ∀c a w,Q (.panic c) (a.put dst v) w->Q (.panic c) a w) (hd:o.dst=dst) (hy:YieldsIf prog ops (Kr w0 rb l) o v a)
  (hS:Kr w0 rb l w) (h:wpAnyH prog md ops Q (Kr w0 rb l) fuel (listed.setIfInBounds i true) (a.put dst v) w):wpAnyH prog md ops Q (Kr w0 rb l) (fuel+1) listed a w:=by
 subst hd
 exact wpAnyH_take hi hs hf hr hQ hy hS h
theorem ZaW (i:Nat) (dst:Option Tmp) {f:FuncId} {args:Array Value} {V:Value} (hi:ops[i]? =some o) (hr:Region.ready md ops listed= [i]) (hd:o.dst=dst) (hw:Region.wanted o (yielded ops a.tmps)=true)
  (he:(execOp a.eval o).run prog w= .ok (.enter f args) w) (hC:Calls prog f args w fun e w'=>e= .returned V/\Below w.heap.size w w') (hS:Kr w0 rb l w)
  (h: ∀X,Kr w0 rb l X->wpAnyH prog md ops Q (Kr w0 rb l) fuel (listed.setIfInBounds i true) (a.put dst V) X):wpAnyH prog md ops Q (Kr w0 rb l) (fuel+1) listed a w:=by
 subst hd
 refine wpAnyH_ready hr (by simp) (AllReadyH.cons hi (fun K hK=> ?_) AllReadyH.nil)
 rw[if_pos hw]
 unfold Oper.wp
 rw[he,Oper.upon_enter]
 refine hC.mono ?_
 rintro _ X ⟨rfl,hb⟩
 exact hK.out _ _ (hS.on hb) (fun hX=>h X hX)
theorem rstore (i:Nat) {x y:Operand} {u:DD} (hi:ops[i]? =some o) (hr:Region.ready md ops listed= [i]) (hd:o.dst=none) (hw:Region.wanted o (yielded ops a.tmps)=true)
  (ho:o.op= .store 39 x y) (hx:a.eval x= .pointer (some ⟨rb,0,none⟩)) (hy:a.eval y=u.agg) (hS:Kr w0 rb l w)
  (h: ∀X,Kp w0 X ((rb, .D u)::l)->wpAnyH prog md ops Q (Kr w0 rb l) fuel (listed.setIfInBounds i true) (a.put none undef) X):wpAnyH prog md ops Q (Kr w0 rb l) (fuel+1) listed a w:=by
 obtain⟨r,hK0⟩:=hS
 rw[←hd] at h
 refine wpAnyH_ready hr (by simp) (AllReadyH.cons hi (fun K hK=> ?_) AllReadyH.nil)
 rw[if_pos hw]
 have hP:=hK0.put 0 (u:=u) rfl
 exact wp_store_mid 39 x y ho _ 0 u.cs.toArray hx hy (Lies.there (hK0.get 0 rfl)) Vr (by simp[DD.cs,Value.oneCell']) (hK.out _ _ ⟨u,hP⟩ (fun _=>h _ hP))
theorem ry24v (j:Nat) {x:Operand} {b:Nat} {d:DD} (hw:Region.wanted o (yielded ops a.tmps)=true) (ho:o.op= .load 36 x) (hx:a.eval x= .pointer (some ⟨b,0,none⟩)) (hl:l[j]? =some (b, .D d)):YieldsIf prog ops (Kr w0 rb l) o d.v.agg a:=by
 obtain⟨t,hu,hd⟩:=Qt
 exact yieldsIf_load_mid hw 36 x ho b 0 hx d.v.cs t (fun X ⟨_,hX⟩=>Lies.rv (hX.get (j+1) hl)) hu hd Qu
theorem ry24g (j:Nat) {x:Operand} {b:Nat} {d:DD} (hw:Region.wanted o (yielded ops a.tmps)=true) (ho:o.op= .load 36 x) (hx:a.eval x= .pointer (some ⟨b,5,none⟩)) (hl:l[j]? =some (b, .D d)):YieldsIf prog ops (Kr w0 rb l) o d.g.agg a:=by
 obtain⟨t,hu,hd⟩:=Qt
 exact yieldsIf_load_mid hw 36 x ho b 5 hx d.g.cs t (fun X ⟨_,hX⟩=>Lies.rg (hX.get (j+1) hl)) hu hd Qu
theorem ry24s (j:Nat) {x:Operand} {b:Nat} {d:DD} (hw:Region.wanted o (yielded ops a.tmps)=true) (ho:o.op= .load 36 x) (hx:a.eval x= .pointer (some ⟨b,10,none⟩)) (hl:l[j]? =some (b, .D d)):YieldsIf prog ops (Kr w0 rb l) o d.s.agg a:=by
 obtain⟨t,hu,hd⟩:=Qt
 exact yieldsIf_load_mid hw 36 x ho b 10 hx d.s.cs t (fun X ⟨_,hX⟩=>Lies.rs (hX.get (j+1) hl)) hu hd Qu
theorem ry25w (j:Nat) {x:Operand} {b:Nat} {d:DD} (hw:Region.wanted o (yielded ops a.tmps)=true) (ho:o.op= .load 37 x) (hx:a.eval x= .pointer (some ⟨b,15,none⟩)) (hl:l[j]? =some (b, .D d)):YieldsIf prog ops (Kr w0 rb l) o (.int .i64 d.w) a:=by
 refine Or.inl ⟨hw,fun X hX=> ?_⟩
 obtain⟨_,hX⟩:=hX
 obtain⟨-,h0,h1,h2,h3,h4,h5,h6,h7,h8,h9,h10,h11,h12,h13,h14,h15,h16,h17⟩:=hX.get (j+1) hl
 unfold execOp
 simp only[ho,hx]
 simp[go_sem,h15,isAgg37]
theorem ry25e (j:Nat) {x:Operand} {b:Nat} {d:DD} (hw:Region.wanted o (yielded ops a.tmps)=true) (ho:o.op= .load 37 x) (hx:a.eval x= .pointer (some ⟨b,16,none⟩)) (hl:l[j]? =some (b, .D d)):YieldsIf prog ops (Kr w0 rb l) o (.int .i64 d.e) a:=by
 refine Or.inl ⟨hw,fun X hX=> ?_⟩
 obtain⟨_,hX⟩:=hX
 obtain⟨-,h0,h1,h2,h3,h4,h5,h6,h7,h8,h9,h10,h11,h12,h13,h14,h15,h16,h17⟩:=hX.get (j+1) hl
 unfold execOp
 simp only[ho,hx]
 simp[go_sem,h16,isAgg37]
theorem ry25c (j:Nat) {x:Operand} {b:Nat} {d:DD} (hw:Region.wanted o (yielded ops a.tmps)=true) (ho:o.op= .load 37 x) (hx:a.eval x= .pointer (some ⟨b,17,none⟩)) (hl:l[j]? =some (b, .D d)):YieldsIf prog ops (Kr w0 rb l) o (.int .i64 d.c) a:=by
 refine Or.inl ⟨hw,fun X hX=> ?_⟩
 obtain⟨_,hX⟩:=hX
 obtain⟨-,h0,h1,h2,h3,h4,h5,h6,h7,h8,h9,h10,h11,h12,h13,h14,h15,h16,h17⟩:=hX.get (j+1) hl
 unfold execOp
 simp only[ho,hx]
 simp[go_sem,h17,isAgg37]
end
theorem Zbj (t a:Int) (w:World):Calls prog 114 #[.int .i64 t, .int .i64 a] w fun e w'=>e= .returned (.int .i64 (orT t a))/\Below w.heap.size w w':=
 (Zb t a w).mono fun e w' h=>⟨h.1,by rw[h.2];exact Below.refl _ _⟩
theorem ZdL (n d:DD) (hn:FD n) (hd:FD d) (w:World):Calls prog 99 #[n.agg,d.agg] w fun e w'=>e= .returned (Ub n d).agg/\Below w.heap.size w w':=by
 have HTu:=Ab (ZaR n d hn hd)
 have HF:=Ab (Zap ⟨d.v,d.g,d.s,d.w,orT d.e n.e,orT d.c n.c⟩ ⟨hd.1,hd.2.1,hd.2.2⟩)
 have HOv:=Ab (Km d.v n.v hd.1)
 have HOg:=Ab (Km d.g n.g hd.2.1)
 have HOs:=Ab (Km d.s n.s hd.2.2)
 clear hn hd
 have LL:=Ab (Lie.new3 w (.D n) (.D d) (.D Ak))
 unfold Ub
 generalize turnV n d=tu at *
 generalize Kz ⟨d.v,d.g,d.s,d.w,orT d.e n.e,orT d.c n.c⟩=fd at *
 have hq0:=Jc n
 have hq1:=Jc d
 rw[hq0,hq1]
 clear hq0 hq1
 go_enter func99,ntmps99
 go_wp2_with (first|go_skip|((with_reducible apply Dg);(case ho=>rfl);(case hw=>rfl);(case hx=>rfl);(case hc=>first|exact(Aa LL).one|exact(Aa LL).two|exact(Aa LL).three);simp only[nn]))
 refine(Aa HTu _).mono ?_
 rintro _ w11 ⟨rfl,hb⟩
 replace LL:=Ab ((Aa LL).on hb)
 clear hb
 cases tu
 ·go_wp2_with fail
  refine wp_region_held_drew (P:=prog) (S:=Kr w (w.heap.size+2) [(w.heap.size, .D n),(w.heap.size+1, .D d)]) (by kernel_rfl) (Kr.on ⟨Ak,(Kp.of3 (Aa LL)).drew⟩ (Below.refl _ _)) (fun hS0=> ?_)
  refine Jk 0 (some 22) (.pointer (some ⟨w.heap.size+1,0,none⟩)) rfl (by kernel_rfl) (by kernel_rfl) (by kernel_rfl) (fun _ _ _ h=>h) (by kernel_rfl) (Or.inl ⟨by kernel_rfl,fun _ _=>by kernel_rfl⟩) hS0 ?_
  simp only[nn]
  refine Jk 1 (some 23) d.v.agg rfl (by kernel_rfl) (by kernel_rfl) (by kernel_rfl) (fun _ _ _ h=>h) (by kernel_rfl) (ry24v 1 (x:= .tmp 22) (b:=w.heap.size+1) (d:=d) (by kernel_rfl) (by kernel_rfl) (by kernel_rfl) rfl) hS0 ?_
  simp only[nn]
  refine Jk 2 (some 24) (.pointer (some ⟨w.heap.size,0,none⟩)) rfl (by kernel_rfl) (by kernel_rfl) (by kernel_rfl) (fun _ _ _ h=>h) (by kernel_rfl) (Or.inl ⟨by kernel_rfl,fun _ _=>by kernel_rfl⟩) hS0 ?_
  simp only[nn]
  refine Jk 3 (some 25) n.v.agg rfl (by kernel_rfl) (by kernel_rfl) (by kernel_rfl) (fun _ _ _ h=>h) (by kernel_rfl) (ry24v 0 (x:= .tmp 24) (b:=w.heap.size) (d:=n) (by kernel_rfl) (by kernel_rfl) (by kernel_rfl) rfl) hS0 ?_
  simp only[nn]
  refine Jk 5 (some 27) (.pointer (some ⟨w.heap.size+1,5,none⟩)) rfl (by kernel_rfl) (by kernel_rfl) (by kernel_rfl) (fun _ _ _ h=>h) (by kernel_rfl) (Or.inl ⟨by kernel_rfl,fun _ _=>by kernel_rfl⟩) hS0 ?_
  simp only[nn]
  refine Jk 6 (some 28) d.g.agg rfl (by kernel_rfl) (by kernel_rfl) (by kernel_rfl) (fun _ _ _ h=>h) (by kernel_rfl) (ry24g 1 (x:= .tmp 27) (b:=w.heap.size+1) (d:=d) (by kernel_rfl) (by kernel_rfl) (by kernel_rfl) rfl) hS0 ?_
  simp only[nn]
  refine Jk 7 (some 29) (.pointer (some ⟨w.heap.size,5,none⟩)) rfl (by kernel_rfl) (by kernel_rfl) (by kernel_rfl) (fun _ _ _ h=>h) (by kernel_rfl) (Or.inl ⟨by kernel_rfl,fun _ _=>by kernel_rfl⟩) hS0 ?_
  simp only[nn]
  refine Jk 8 (some 30) n.g.agg rfl (by kernel_rfl) (by kernel_rfl) (by kernel_rfl) (fun _ _ _ h=>h) (by kernel_rfl) (ry24g 0 (x:= .tmp 29) (b:=w.heap.size) (d:=n) (by kernel_rfl) (by kernel_rfl) (by kernel_rfl) rfl) hS0 ?_
  simp only[nn]
  refine Jk 10 (some 32) (.pointer (some ⟨w.heap.size+1,10,none⟩)) rfl (by kernel_rfl) (by kernel_rfl) (by kernel_rfl) (fun _ _ _ h=>h) (by kernel_rfl) (Or.inl ⟨by kernel_rfl,fun _ _=>by kernel_rfl⟩) hS0 ?_
  simp only[nn]
  refine Jk 11 (some 33) d.s.agg rfl (by kernel_rfl) (by kernel_rfl) (by kernel_rfl) (fun _ _ _ h=>h) (by kernel_rfl) (ry24s 1 (x:= .tmp 32) (b:=w.heap.size+1) (d:=d) (by kernel_rfl) (by kernel_rfl) (by kernel_rfl) rfl) hS0 ?_
  simp only[nn]
  refine Jk 12 (some 34) (.pointer (some ⟨w.heap.size,10,none⟩)) rfl (by kernel_rfl) (by kernel_rfl) (by kernel_rfl) (fun _ _ _ h=>h) (by kernel_rfl) (Or.inl ⟨by kernel_rfl,fun _ _=>by kernel_rfl⟩) hS0 ?_
  simp only[nn]
  refine Jk 13 (some 35) n.s.agg rfl (by kernel_rfl) (by kernel_rfl) (by kernel_rfl) (fun _ _ _ h=>h) (by kernel_rfl) (ry24s 0 (x:= .tmp 34) (b:=w.heap.size) (d:=n) (by kernel_rfl) (by kernel_rfl) (by kernel_rfl) rfl) hS0 ?_
  simp only[nn]
  refine Jk 15 (some 37) (.pointer (some ⟨w.heap.size+1,15,none⟩)) rfl (by kernel_rfl) (by kernel_rfl) (by kernel_rfl) (fun _ _ _ h=>h) (by kernel_rfl) (Or.inl ⟨by kernel_rfl,fun _ _=>by kernel_rfl⟩) hS0 ?_
  simp only[nn]
  refine Jk 16 (some 38) (.int .i64 d.w) rfl (by kernel_rfl) (by kernel_rfl) (by kernel_rfl) (fun _ _ _ h=>h) (by kernel_rfl) (ry25w 1 (x:= .tmp 37) (b:=w.heap.size+1) (d:=d) (by kernel_rfl) (by kernel_rfl) (by kernel_rfl) rfl) hS0 ?_
  simp only[nn]
  refine Jk 17 (some 39) (.pointer (some ⟨w.heap.size,15,none⟩)) rfl (by kernel_rfl) (by kernel_rfl) (by kernel_rfl) (fun _ _ _ h=>h) (by kernel_rfl) (Or.inl ⟨by kernel_rfl,fun _ _=>by kernel_rfl⟩) hS0 ?_
  simp only[nn]
  refine Jk 18 (some 40) (.int .i64 n.w) rfl (by kernel_rfl) (by kernel_rfl) (by kernel_rfl) (fun _ _ _ h=>h) (by kernel_rfl) (ry25w 0 (x:= .tmp 39) (b:=w.heap.size) (d:=n) (by kernel_rfl) (by kernel_rfl) (by kernel_rfl) rfl) hS0 ?_
  simp only[nn]
  refine Jk 20 (some 42) (.pointer (some ⟨w.heap.size+1,16,none⟩)) rfl (by kernel_rfl) (by kernel_rfl) (by kernel_rfl) (fun _ _ _ h=>h) (by kernel_rfl) (Or.inl ⟨by kernel_rfl,fun _ _=>by kernel_rfl⟩) hS0 ?_
  simp only[nn]
  refine Jk 21 (some 43) (.int .i64 d.e) rfl (by kernel_rfl) (by kernel_rfl) (by kernel_rfl) (fun _ _ _ h=>h) (by kernel_rfl) (ry25e 1 (x:= .tmp 42) (b:=w.heap.size+1) (d:=d) (by kernel_rfl) (by kernel_rfl) (by kernel_rfl) rfl) hS0 ?_
  simp only[nn]
  refine Jk 22 (some 44) (.pointer (some ⟨w.heap.size,16,none⟩)) rfl (by kernel_rfl) (by kernel_rfl) (by kernel_rfl) (fun _ _ _ h=>h) (by kernel_rfl) (Or.inl ⟨by kernel_rfl,fun _ _=>by kernel_rfl⟩) hS0 ?_
  simp only[nn]
  refine Jk 23 (some 45) (.int .i64 n.e) rfl (by kernel_rfl) (by kernel_rfl) (by kernel_rfl) (fun _ _ _ h=>h) (by kernel_rfl) (ry25e 0 (x:= .tmp 44) (b:=w.heap.size) (d:=n) (by kernel_rfl) (by kernel_rfl) (by kernel_rfl) rfl) hS0 ?_
  simp only[nn]
  refine Jk 25 (some 47) (.pointer (some ⟨w.heap.size+1,17,none⟩)) rfl (by kernel_rfl) (by kernel_rfl) (by kernel_rfl) (fun _ _ _ h=>h) (by kernel_rfl) (Or.inl ⟨by kernel_rfl,fun _ _=>by kernel_rfl⟩) hS0 ?_
  simp only[nn]
  refine Jk 26 (some 48) (.int .i64 d.c) rfl (by kernel_rfl) (by kernel_rfl) (by kernel_rfl) (fun _ _ _ h=>h) (by kernel_rfl) (ry25c 1 (x:= .tmp 47) (b:=w.heap.size+1) (d:=d) (by kernel_rfl) (by kernel_rfl) (by kernel_rfl) rfl) hS0 ?_
  simp only[nn]
  refine Jk 27 (some 49) (.pointer (some ⟨w.heap.size,17,none⟩)) rfl (by kernel_rfl) (by kernel_rfl) (by kernel_rfl) (fun _ _ _ h=>h) (by kernel_rfl) (Or.inl ⟨by kernel_rfl,fun _ _=>by kernel_rfl⟩) hS0 ?_
  simp only[nn]
  refine Jk 28 (some 50) (.int .i64 n.c) rfl (by kernel_rfl) (by kernel_rfl) (by kernel_rfl) (fun _ _ _ h=>h) (by kernel_rfl) (ry25c 0 (x:= .tmp 49) (b:=w.heap.size) (d:=n) (by kernel_rfl) (by kernel_rfl) (by kernel_rfl) rfl) hS0 ?_
  simp only[nn]
  refine ZaW 4 (some 26) rfl (by kernel_rfl) (by kernel_rfl) (by kernel_rfl) (by kernel_rfl) (Aa HOv _) hS0 (fun w1 hS1=> ?_)
  clear hS0
  simp only[nn]
  refine ZaW 9 (some 31) rfl (by kernel_rfl) (by kernel_rfl) (by kernel_rfl) (by kernel_rfl) (Aa HOg _) hS1 (fun w2 hS2=> ?_)
  clear hS1
  simp only[nn]
  refine ZaW 14 (some 36) rfl (by kernel_rfl) (by kernel_rfl) (by kernel_rfl) (by kernel_rfl) (Aa HOs _) hS2 (fun w3 hS3=> ?_)
  clear hS2
  simp only[nn]
  refine ZaW 19 (some 41) rfl (by kernel_rfl) (by kernel_rfl) (by kernel_rfl) (by kernel_rfl) (Zbj d.w n.w _) hS3 (fun w4 hS4=> ?_)
  clear hS3
  simp only[nn]
  refine ZaW 24 (some 46) rfl (by kernel_rfl) (by kernel_rfl) (by kernel_rfl) (by kernel_rfl) (Zbj d.e n.e _) hS4 (fun w5 hS5=> ?_)
  clear hS4
  simp only[nn]
  refine ZaW 29 (some 51) rfl (by kernel_rfl) (by kernel_rfl) (by kernel_rfl) (by kernel_rfl) (Zbj d.c n.c _) hS5 (fun w6 hS6=> ?_)
  clear hS5
  simp only[nn]
  refine Jk 30 (some 52) (DD.agg ⟨orV d.v n.v,orV d.g n.g,orV d.s n.s,orT d.w n.w,orT d.e n.e,orT d.c n.c⟩) rfl (by kernel_rfl) (by kernel_rfl) (by kernel_rfl) (fun _ _ _ h=>h) (by kernel_rfl) (Or.inl ⟨by kernel_rfl,fun _ _=>by kernel_rfl⟩) hS6 ?_
  simp only[nn]
  refine rstore 31 (x:= .tmp 4) (y:= .tmp 52) (u:=⟨orV d.v n.v,orV d.g n.g,orV d.s n.s,orT d.w n.w,orT d.e n.e,orT d.c n.c⟩) rfl (by kernel_rfl) (by kernel_rfl) (by kernel_rfl) (by kernel_rfl) (by kernel_rfl) (by kernel_rfl) hS6 (fun w7 hK=> ?_)
  clear hS6
  try simp only[nn]
  refine wpAnyH_done (by kernel_rfl) ?_ _
  go_wp2_with fail
  refine Zch rfl rfl rfl (hK.get 0 rfl) ?_
  exact⟨rfl,hK.below⟩
 ·go_wp2_with (first|go_skip|((with_reducible apply Dg);(case ho=>rfl);(case hw=>rfl);(case hx=>rfl);(case hc=>first|exact(Aa LL).one|exact(Aa LL).two|exact(Aa LL).three);simp only[nn])|((with_reducible apply Ep);(case ho=>rfl);(case hw=>rfl);(case hx=>rfl);(case hc=>first|exact(Aa LL).one|exact(Aa LL).two|exact(Aa LL).three);simp only[nn])|((with_reducible apply Ex);(case ho=>rfl);(case hw=>rfl);(case hx=>rfl);(case hc=>first|exact(Aa LL).one|exact(Aa LL).two|exact(Aa LL).three);simp only[nn])|((with_reducible apply Zm 1);(case ho=>rfl);(case hw=>rfl);(case hL=>exact Aa LL);(case hi=>rfl);(case hx=>rfl);(case hy=>rfl);(intro X LX;simp only[nn];replace LL:=Ab LX;clear LX))|((with_reducible apply Zn 1);(case ho=>rfl);(case hw=>rfl);(case hL=>exact Aa LL);(case hi=>rfl);(case hx=>rfl);(case hy=>rfl);(intro X LX;simp only[nn];replace LL:=Ab LX;clear LX))|(go_at_call 114;refine(Zb _ _ _).mono ?_;rintro _ _ ⟨rfl,rfl⟩))
  refine(Aa HF _).mono ?_
  rintro _ w11 ⟨rfl,hb⟩
  replace LL:=Ab ((Aa LL).on hb)
  clear hb
  go_wp2_with (first|go_skip|((with_reducible apply Ks 2);(case ho=>rfl);(case hw=>rfl);(case hL=>exact Aa LL);(case hi=>rfl);(case hx=>rfl);(case hy=>rfl);(intro X LX;simp only[nn];replace LL:=Ab LX;clear LX)))
  refine Zch rfl rfl rfl (Aa LL).three ?_
  exact⟨rfl,(Aa LL).below⟩
def Ec (x:Bool) (n d:DD):DD:=if Jm d==0|| !stV n then Ak else if noV n then (if x then Kz d else Ak) else if n.c==1 && Zal n d then n else Ub n d
def Yx (x:Bool) (n d:DD):Bool:=if Jm d==0|| !stV n then false else if noV n then x else !(n.c==1 && Zal n d)
def Ln (n d:DD):Int:=if Jm d==0|| !stV n then 5 else 0
theorem no_str {n:DD} (h:noV n=true):n.v.s.size<=1048576:=by
 refine Zct ?_
 unfold noV Di at h
 cases ht:thV n.v
 ·rfl
 ·rw[ht] at h
  simp at h
  split at h<;>simp_all
theorem st_str {n:DD} (h:stV n=true):n.v.s.size<=1048576:=by
 unfold stV at h
 simp only[Bool.or_eq_true] at h
 rcases h with h|h
 ·exact no_str h
 ·exact Vn (Rl (Zc0 h))
theorem bec_str {n d:DD} (h1:n.v.s.size<=1048576) (h2:d.v.s.size<=1048576):(Ub n d).v.s.size<=1048576:=by
 unfold Ub
 cases turnV n d
 ·show (orV d.v n.v).s.size<=1048576
  unfold orV
  cases thV d.v
  ·exact h1
  ·exact h2
 ·exact ZcJ h2
theorem Zfp (x:Bool) (n d:DD) (hn:FD n) (hd:FD d) (w:World) (hT:Lib.Utf8Tabs 1 2 w):Calls prog 74 #[.bool x,n.agg,d.agg] w fun e w'=>e= .returned (.tuple #[(Ec x n d).agg, .bool (Yx x n d), .int .i64 (Ln n d)])/\Below w.heap.size w w':=by
 have HT:=Ab hT
 clear hT
 have HC:=Ab (fun w hT=>Vh d hd w hT)
 have HSt:=Ab (fun w hT=>Zc4 n hn w hT)
 have HNo:=Ab (Yd n hn)
 have HFi:=Ab (Zap d hd)
 have HFb:=Ab (fun w hT=>ZaO n d hn hd w hT)
 have HBe:=Ab (ZdL n d hn hd)
 have HAf:=Ab (fun (h: ¬Jm d=0) w=>ZaE (Kz d) (ZcJ (Vn (Rl h))) w)
 have HAn:=Ab (fun (h:stV n=true) w=>ZaE n (st_str h) w)
 have HAb:=Ab (fun (h: ¬Jm d=0) (h2:stV n=true) w=>ZaE (Ub n d) (bec_str (st_str h2) (Vn (Rl h))) w)
 clear hn hd
 have LL:=Ab (Lie.new3 w (.D n) (.D d) (.D Ak))
 unfold Ec Yx Ln
 unfold Gb at HC
 generalize Jm d=k at *
 generalize stV n=st at *
 generalize noV n=no at *
 generalize Kz d=fd at *
 generalize Zal n d=fb at *
 generalize Ub n d=be at *
 generalize hq:(n.c==1)=q at *
 have hq0:=Jc n
 have hq1:=Jc d
 rw[hq0,hq1]
 clear hq0 hq1
 by_cases hk:k=0
 ·clear HAf HAb HAn
  subst hk
  go_enter func74,ntmps74
  go_wp2_with (first|go_skip|((with_reducible apply Dg);(case ho=>rfl);(case hw=>rfl);(case hx=>rfl);(case hc=>first|exact(Aa LL).one|exact(Aa LL).two);simp only[nn]))
  refine(Aa HC _ (Au (Aa HT) (Aa LL).below)).mono ?_
  rintro _ w11 ⟨rfl,hb⟩
  replace LL:=Ab ((Aa LL).on hb)
  clear hb
  go_wp2_with (first|go_skip|((with_reducible apply Ks (u:=Ak) 2);(case ho=>rfl);(case hw=>rfl);(case hL=>exact Aa LL);(case hi=>rfl);(case hx=>rfl);(case hy=>rfl);(intro X LX;simp only[nn];replace LL:=Ab LX;clear LX)))
  refine Ol rfl rfl rfl rfl rfl (Aa LL).three ?_
  exact⟨rfl,(Aa LL).below⟩
 ·have e0:(k==0)=false:=by simp[hk]
  simp only[e0] at HC ⊢
  replace HAf:=Ab (Aa HAf hk)
  replace HAb:=Ab (Aa HAb hk)
  clear hk e0
  cases st
  ·clear HAn HAb
   go_enter func74,ntmps74
   go_wp2_with (first|go_skip|((with_reducible apply Dg);(case ho=>rfl);(case hw=>rfl);(case hx=>rfl);(case hc=>first|exact(Aa LL).one|exact(Aa LL).two);simp only[nn]))
   refine(Aa HC _ (Au (Aa HT) (Aa LL).below)).mono ?_
   rintro _ w12 ⟨rfl,hb⟩
   replace LL:=Ab ((Aa LL).on hb)
   clear hb
   go_wp2_with (first|go_skip|((with_reducible apply Dg);(case ho=>rfl);(case hw=>rfl);(case hx=>rfl);(case hc=>first|exact(Aa LL).one|exact(Aa LL).two);simp only[nn]))
   refine(Aa HSt _ (Au (Aa HT) (Aa LL).below)).mono ?_
   rintro _ w13 ⟨rfl,hb⟩
   replace LL:=Ab ((Aa LL).on hb)
   clear hb
   go_wp2_with (first|go_skip|((with_reducible apply Ks (u:=Ak) 2);(case ho=>rfl);(case hw=>rfl);(case hL=>exact Aa LL);(case hi=>rfl);(case hx=>rfl);(case hy=>rfl);(intro X LX;simp only[nn];replace LL:=Ab LX;clear LX)))
   refine Ol rfl rfl rfl rfl rfl (Aa LL).three ?_
   exact⟨rfl,(Aa LL).below⟩
  ·replace HAn:=Ab (Aa HAn rfl)
   replace HAb:=Ab (Aa HAb rfl)
   cases no
   ·go_enter func74,ntmps74
    go_wp2_with (first|go_skip|((with_reducible apply Dg);(case ho=>rfl);(case hw=>rfl);(case hx=>rfl);(case hc=>first|exact(Aa LL).one|exact(Aa LL).two);simp only[nn]))
    refine(Aa HC _ (Au (Aa HT) (Aa LL).below)).mono ?_
    rintro _ w17 ⟨rfl,hb⟩
    replace LL:=Ab ((Aa LL).on hb)
    clear hb
    go_wp2_with (first|go_skip|((with_reducible apply Dg);(case ho=>rfl);(case hw=>rfl);(case hx=>rfl);(case hc=>first|exact(Aa LL).one|exact(Aa LL).two);simp only[nn]))
    refine(Aa HSt _ (Au (Aa HT) (Aa LL).below)).mono ?_
    rintro _ w18 ⟨rfl,hb⟩
    replace LL:=Ab ((Aa LL).on hb)
    clear hb
    go_wp2_with (first|go_skip|((with_reducible apply Dg);(case ho=>rfl);(case hw=>rfl);(case hx=>rfl);(case hc=>first|exact(Aa LL).one|exact(Aa LL).two);simp only[nn]))
    refine(Aa HNo _).mono ?_
    rintro _ w19 ⟨rfl,hb⟩
    replace LL:=Ab ((Aa LL).on hb)
    clear hb
    go_wp2_with (first|go_skip|((with_reducible apply Dg);(case ho=>rfl);(case hw=>rfl);(case hx=>rfl);(case hc=>first|exact(Aa LL).one|exact(Aa LL).two);simp only[nn]))
    refine(Aa HNo _).mono ?_
    rintro _ w20 ⟨rfl,hb⟩
    replace LL:=Ab ((Aa LL).on hb)
    clear hb
    cases q
    ·go_wp2_with (first|go_skip|((with_reducible apply Dg);(case ho=>rfl);(case hw=>rfl);(case hx=>rfl);(case hc=>first|exact(Aa LL).one|exact(Aa LL).two);simp only[nn])|((with_reducible apply Ex);(case ho=>rfl);(case hw=>rfl);(case hx=>rfl);(case hc=>first|exact(Aa LL).one|exact(Aa LL).two);simp only[nn]))
     refine(Aa HBe _).mono ?_
     rintro _ w21 ⟨rfl,hb⟩
     replace LL:=Ab ((Aa LL).on hb)
     clear hb
     go_wp2_with (go_skip)
     refine(Aa HAb _).mono ?_
     rintro _ w22 ⟨rfl,hb⟩
     replace LL:=Ab ((Aa LL).on hb)
     clear hb
     go_wp2_with (first|go_skip|((with_reducible apply Ks 2);(case ho=>rfl);(case hw=>rfl);(case hL=>exact Aa LL);(case hi=>rfl);(case hx=>rfl);(case hy=>rfl);(intro X LX;simp only[nn];replace LL:=Ab LX;clear LX)))
     refine Ol rfl rfl rfl rfl rfl (Aa LL).three ?_
     exact⟨rfl,(Aa LL).below⟩
    ·go_wp2_with (first|go_skip|((with_reducible apply Dg);(case ho=>rfl);(case hw=>rfl);(case hx=>rfl);(case hc=>first|exact(Aa LL).one|exact(Aa LL).two);simp only[nn])|((with_reducible apply Ex);(case ho=>rfl);(case hw=>rfl);(case hx=>rfl);(case hc=>first|exact(Aa LL).one|exact(Aa LL).two);simp only[nn]))
     refine(Aa HFb _ (Au (Aa HT) (Aa LL).below)).mono ?_
     rintro _ w23 ⟨rfl,hb⟩
     replace LL:=Ab ((Aa LL).on hb)
     clear hb
     cases fb
     ·go_wp2_with (first|go_skip|((with_reducible apply Dg);(case ho=>rfl);(case hw=>rfl);(case hx=>rfl);(case hc=>first|exact(Aa LL).one|exact(Aa LL).two);simp only[nn]))
      refine(Aa HBe _).mono ?_
      rintro _ w24 ⟨rfl,hb⟩
      replace LL:=Ab ((Aa LL).on hb)
      clear hb
      go_wp2_with (go_skip)
      refine(Aa HAb _).mono ?_
      rintro _ w25 ⟨rfl,hb⟩
      replace LL:=Ab ((Aa LL).on hb)
      clear hb
      go_wp2_with (first|go_skip|((with_reducible apply Ks 2);(case ho=>rfl);(case hw=>rfl);(case hL=>exact Aa LL);(case hi=>rfl);(case hx=>rfl);(case hy=>rfl);(intro X LX;simp only[nn];replace LL:=Ab LX;clear LX)))
      refine Ol rfl rfl rfl rfl rfl (Aa LL).three ?_
      exact⟨rfl,(Aa LL).below⟩
     ·go_wp2_with (first|go_skip|((with_reducible apply Dg);(case ho=>rfl);(case hw=>rfl);(case hx=>rfl);(case hc=>first|exact(Aa LL).one|exact(Aa LL).two);simp only[nn]))
      refine(Aa HAn _).mono ?_
      rintro _ w26 ⟨rfl,hb⟩
      replace LL:=Ab ((Aa LL).on hb)
      clear hb
      go_wp2_with (first|go_skip|((with_reducible apply Ks 2);(case ho=>rfl);(case hw=>rfl);(case hL=>exact Aa LL);(case hi=>rfl);(case hx=>rfl);(case hy=>rfl);(intro X LX;simp only[nn];replace LL:=Ab LX;clear LX)))
      refine Ol rfl rfl rfl rfl rfl (Aa LL).three ?_
      exact⟨rfl,(Aa LL).below⟩
   ·cases x
    ·go_enter func74,ntmps74
     go_wp2_with (first|go_skip|((with_reducible apply Dg);(case ho=>rfl);(case hw=>rfl);(case hx=>rfl);(case hc=>first|exact(Aa LL).one|exact(Aa LL).two);simp only[nn]))
     refine(Aa HC _ (Au (Aa HT) (Aa LL).below)).mono ?_
     rintro _ w14 ⟨rfl,hb⟩
     replace LL:=Ab ((Aa LL).on hb)
     clear hb
     go_wp2_with (first|go_skip|((with_reducible apply Dg);(case ho=>rfl);(case hw=>rfl);(case hx=>rfl);(case hc=>first|exact(Aa LL).one|exact(Aa LL).two);simp only[nn]))
     refine(Aa HSt _ (Au (Aa HT) (Aa LL).below)).mono ?_
     rintro _ w15 ⟨rfl,hb⟩
     replace LL:=Ab ((Aa LL).on hb)
     clear hb
     go_wp2_with (first|go_skip|((with_reducible apply Dg);(case ho=>rfl);(case hw=>rfl);(case hx=>rfl);(case hc=>first|exact(Aa LL).one|exact(Aa LL).two);simp only[nn]))
     refine(Aa HNo _).mono ?_
     rintro _ w16 ⟨rfl,hb⟩
     replace LL:=Ab ((Aa LL).on hb)
     clear hb
     go_wp2_with (first|go_skip|((with_reducible apply Ks (u:=Ak) 2);(case ho=>rfl);(case hw=>rfl);(case hL=>exact Aa LL);(case hi=>rfl);(case hx=>rfl);(case hy=>rfl);(intro X LX;simp only[nn];replace LL:=Ab LX;clear LX)))
     refine Ol rfl rfl rfl rfl rfl (Aa LL).three ?_
     exact⟨rfl,(Aa LL).below⟩
    ·go_enter func74,ntmps74
     go_wp2_with (first|go_skip|((with_reducible apply Dg);(case ho=>rfl);(case hw=>rfl);(case hx=>rfl);(case hc=>first|exact(Aa LL).one|exact(Aa LL).two);simp only[nn]))
     refine(Aa HC _ (Au (Aa HT) (Aa LL).below)).mono ?_
     rintro _ w11 ⟨rfl,hb⟩
     replace LL:=Ab ((Aa LL).on hb)
     clear hb
     go_wp2_with (first|go_skip|((with_reducible apply Dg);(case ho=>rfl);(case hw=>rfl);(case hx=>rfl);(case hc=>first|exact(Aa LL).one|exact(Aa LL).two);simp only[nn]))
     refine(Aa HSt _ (Au (Aa HT) (Aa LL).below)).mono ?_
     rintro _ w12 ⟨rfl,hb⟩
     replace LL:=Ab ((Aa LL).on hb)
     clear hb
     go_wp2_with (first|go_skip|((with_reducible apply Dg);(case ho=>rfl);(case hw=>rfl);(case hx=>rfl);(case hc=>first|exact(Aa LL).one|exact(Aa LL).two);simp only[nn]))
     refine(Aa HNo _).mono ?_
     rintro _ w13 ⟨rfl,hb⟩
     replace LL:=Ab ((Aa LL).on hb)
     clear hb
     go_wp2_with (first|go_skip|((with_reducible apply Dg);(case ho=>rfl);(case hw=>rfl);(case hx=>rfl);(case hc=>first|exact(Aa LL).one|exact(Aa LL).two);simp only[nn]))
     refine(Aa HNo _).mono ?_
     rintro _ w14 ⟨rfl,hb⟩
     replace LL:=Ab ((Aa LL).on hb)
     clear hb
     go_wp2_with (first|go_skip|((with_reducible apply Dg);(case ho=>rfl);(case hw=>rfl);(case hx=>rfl);(case hc=>first|exact(Aa LL).one|exact(Aa LL).two);simp only[nn]))
     refine(Aa HFi _).mono ?_
     rintro _ w15 ⟨rfl,hb⟩
     replace LL:=Ab ((Aa LL).on hb)
     clear hb
     go_wp2_with (go_skip)
     refine(Aa HAf _).mono ?_
     rintro _ w16 ⟨rfl,hb⟩
     replace LL:=Ab ((Aa LL).on hb)
     clear hb
     go_wp2_with (first|go_skip|((with_reducible apply Ks 2);(case ho=>rfl);(case hw=>rfl);(case hL=>exact Aa LL);(case hi=>rfl);(case hx=>rfl);(case hy=>rfl);(intro X LX;simp only[nn];replace LL:=Ab LX;clear LX)))
     refine Ol rfl rfl rfl rfl rfl (Aa LL).three ?_
     exact⟨rfl,(Aa LL).below⟩
